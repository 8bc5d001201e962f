"""Lengths: strips of every count, looked at cell by cell.

Lots give each place a mark: "s", "t", or "n" for neither. Cell by cell they come to states,
as [72] tells them; the state START stands for what is ahead of the head.
"""

from contentties.cells import cells_of
from contentties.kinds import every_pick
from contentties.worst import has_row

START = (0, (), False)
MARKS = ("s", "t", "n")
WORTH = {"s": -1, "t": 1, "n": 0}


class Track:
    """The states to which the head and some cells of a strip come, count by count.

    A layer is a dict from each state that is come to with so many cells, to the greatest sum
    of gains, the state ahead of it, and the marks and numbers that lead from there to it.
    """

    def __init__(self, strip):
        self.whole = strip
        opening = moves(strip, strip.head, START)
        self.layers = [{state: (gain, START, marks, numbers) for state, (gain, marks, numbers) in opening.items()}]
        self.behind = {}
        self.closed = {}

    def go_on(self):
        """Add the layer of one more cell."""
        last = self.layers[-1]
        added = {}
        for state in last:
            if state not in self.behind:
                self.behind[state] = moves(self.whole, self.whole.cell, state)
            for reached, (gain, marks, numbers) in self.behind[state].items():
                total = last[state][0] + gain
                if reached not in added or total > added[reached][0]:
                    added[reached] = (total, state, marks, numbers)
        self.layers.append(added)

    def ending(self, parity):
        """Return the greatest sum of gains, with the tail, for rows of a parity, and what leads to it.

        These are the state ahead of the tail, its marks and numbers; it is None without such a row.
        """
        last = self.layers[-1]
        found = []
        for state in last:
            if state not in self.closed:
                self.closed[state] = endings(self.whole, state)
            if parity in self.closed[state]:
                gain, marks, numbers = self.closed[state][parity]
                found.append((last[state][0] + gain, state, marks, numbers))
        return max(found, default=None)

    def told(self, end):
        """Return the amount, the row and the lots for what ending has returned."""
        amount, state, marks, numbers = end
        all_marks, all_numbers = [marks], [numbers]
        for layer in self.layers[::-1]:
            _, ahead, marks, numbers = layer[state]
            all_marks.append(marks)
            all_numbers.append(numbers)
            state = ahead
        row = tuple([number for of_cell in all_numbers[::-1] for number in of_cell])
        by_place = [mark for of_cell in all_marks[::-1] for mark in of_cell]
        return amount, row, (_places_with("s", by_place), _places_with("t", by_place))


def strip_excess(strip, count, row, lots):
    """Return the excess of lots for a row of the strip of count."""
    marks = ["n"] * len(row)
    for mark, places in zip(("s", "t"), lots):
        for place in places:
            marks[place] = mark
    state = START
    total = 0
    for at, cell in enumerate(cells_of(strip, count)):
        first, behind = at * strip.width, (at + 1) * strip.width
        state, gain = put_behind(strip, cell, state, tuple(marks[first:behind]), row[first:behind])
        total = total + gain
    return -(total + _odd_ends(state))


def worst_at(strip, count, parity):
    """Return what worst returns for the strip of count: the greatest lack of a parity, a row with it, and lots."""
    track = Track(strip)
    for _ in range(count):
        track.go_on()
    end = track.ending(parity)
    if end is None:
        return None
    return track.told(end)


def lengths(strip):
    """Return whether all even rows are granted for all counts, or the least count for which one is not."""
    found = look_at_all(strip)
    if found[0] == "every":
        return ("every",)
    return found


def look_at_all(strip):
    """Return what lengths tells; with "every" a dict from each state to its greatest sum of gains.

    As soon as one more cell raises no sum, no further cell does.
    """
    if not has_row(strip.wants_of(0), 0) and not has_row(strip.wants_of(1), 0):
        return ("none",)
    track = Track(strip)
    before = {}
    sums = _raised(before, track.layers[0])
    while sums != before:
        end = track.ending(0)
        if end is not None and end[0] > 0:
            _, row, lots = track.told(end)
            return "barred", len(track.layers) - 1, row, lots
        track.go_on()
        before = sums
        sums = _raised(before, track.layers[-1])
    return "every", sums


def moves(strip, cell, state):
    """Return a dict from each state that a cell behind a state comes to, to the greatest gain, marks and numbers."""
    best = {}
    for marks in every_pick([MARKS] * len(cell)):
        for numbers in every_pick([_best_numbers(mark, want) for mark, want in zip(marks, cell.wishes)]):
            reached, gain = put_behind(strip, cell, state, marks, numbers)
            if reached not in best or gain > best[reached][0]:
                best[reached] = (gain, marks, numbers)
    return best


def endings(strip, state):
    """Return a dict from each parity of the whole row, with the tail behind a state, to the same with all ends."""
    best = {}
    for reached, (gain, marks, numbers) in moves(strip, strip.tail, state).items():
        total = gain + _odd_ends(reached)
        if reached[0] not in best or total > best[reached[0]][0]:
            best[reached[0]] = (total, marks, numbers)
    return best


def put_behind(strip, cell, state, marks, numbers):
    """Return the state and the gain when a cell with these marks and numbers is put behind a state."""
    parity, last, _ = state
    weights = [number + _ties_to_t(strip, cell, last, marks, place) for place, number in enumerate(numbers)]
    joined = marks == ("n", "n") and cell.inner > 0
    gain = sum([WORTH[mark] * number for mark, number in zip(marks, numbers)]) - _toll(strip, cell, last, marks)
    for piece, odd in _pieces(state):
        reached = [place for place, mark in enumerate(marks) if mark == "n" and _ties(strip, piece, place) > 0]
        weight = odd + sum([_ties(strip, piece, place) for place, mark in enumerate(marks) if mark == "t"])
        if reached:
            weights[reached[0]] = weights[reached[0]] + weight
            joined = joined or len(reached) == 2
        else:
            gain = gain + weight % 2
    if joined:
        weights = [sum(weights)] * 2
    told = tuple([_mark_of(mark, weight) for mark, weight in zip(marks, weights)])
    return ((parity + sum(numbers)) % 2, told, joined), gain


def _best_numbers(mark, want):
    """Return the list of the best integer of each parity that a want has, for a place with a mark."""
    if mark == "s":
        ends = [want.least(0), want.least(1)]
    else:
        ends = [want.greatest(0), want.greatest(1)]
    return [end for end in ends if end is not None]


def _ties(strip, piece, place):
    """Return the number of ties between some places of the last cell and one of the new cell."""
    return sum([strip.onward[member][place] for member in piece])


def _ties_to_t(strip, cell, last, marks, place):
    """Return the number of ties between a place of the new cell and all places in t."""
    behind = [cell.inner for other, mark in enumerate(marks) if other != place and mark == "t"]
    return _ties(strip, [member for member, mark in enumerate(last) if mark == "t"], place) + sum(behind)


def _toll(strip, cell, last, marks):
    """Return what all ties of a new cell cost."""
    inner = cell.inner * _toll_of_tie(marks[0], marks[-1])
    onward = [strip.onward[member][place] * _toll_of_tie(one, other)
              for member, one in enumerate(last) for place, other in enumerate(marks)]
    return inner + sum(onward)


def _toll_of_tie(one, other):
    """Return what a tie between places with two marks costs: 1 for each end in t, nothing if the other is in s."""
    if one == "s" or other == "s":
        return 0
    return (one, other).count("t")


def _pieces(state):
    """Return the pieces of a state that may go on: tuples of their places and their parity."""
    _, marks, joined = state
    found = [((place,), 1 if mark == "o" else 0) for place, mark in enumerate(marks) if mark in ("e", "o")]
    if joined:
        return [((0, 1), found[0][1])]
    return found


def _odd_ends(state):
    """Return the number of odd pieces that come to their end behind a state."""
    return sum([odd for _, odd in _pieces(state)])


def _mark_of(mark, weight):
    """Return the mark that a state has for a place, given the weight of its piece."""
    if mark != "n":
        return mark
    return "o" if weight % 2 == 1 else "e"


def _places_with(sought, marks):
    """Return the tuple of the places that have a mark."""
    return tuple([place for place, mark in enumerate(marks) if mark == sought])


def _raised(sums, layer):
    """Return the dict of the greatest sums of gains, when those of one more layer are looked at."""
    raised = {state: sums[state] for state in sums}
    for state in layer:
        total = layer[state][0]
        raised[state] = max(total, raised.get(state, total))
    return raised
