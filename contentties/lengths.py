"""Lengths: strips of every count, looked at cell by cell, from state to state [72]."""

from contentties.states import START, Behind, Seams, odd_ends
from contentties.worst import has_row


class Track:
    """The states to which the head and some cells of a strip come, count by count.

    A layer is a dict from each state that is come to with so many cells to the greatest sum of gains, and
    the state ahead of it.
    """

    def __init__(self, strip):
        seams = Seams(strip)
        self.cells = Behind(seams, strip.cell)
        self.tails = Behind(seams, strip.tail)
        self.opening = Behind(seams, strip.head).moves(START)
        self.layers = [{state: (self.opening[state][0], START) for state in self.opening}]

    def go_on(self):
        """Add the layer of one more cell."""
        last = self.layers[-1]
        added = {}
        for state in last:
            ahead = last[state][0]
            for reached, (gain, _, _) in self.cells.moves(state).items():
                if reached not in added or ahead + gain > added[reached][0]:
                    added[reached] = (ahead + gain, state)
        self.layers.append(added)

    def ending(self, parity):
        """Return the greatest sum of gains, with the tail, for rows of a parity, and what leads to it.

        These are the state ahead of the tail, its marks and numbers; it is None without such a row.
        """
        last = self.layers[-1]
        found = []
        for state in last:
            closing = self.tails.endings(state)
            if parity in closing:
                gain, marks, numbers = closing[parity]
                found.append((last[state][0] + gain, state, marks, numbers))
        return max(found, default=None)

    def told(self, end):
        """Return the amount, the row and the lots for what ending has returned."""
        amount, state, marks, numbers = end
        all_marks, all_numbers = [marks], [numbers]
        for layer in self.layers[:0:-1]:
            ahead = layer[state][1]
            _, marks, numbers = self.cells.moves(ahead)[state]
            all_marks.append(marks)
            all_numbers.append(numbers)
            state = ahead
        _, marks, numbers = self.opening[state]
        all_marks.append(marks)
        all_numbers.append(numbers)
        row = tuple([number for of_cell in all_numbers[::-1] for number in of_cell])
        by_place = [mark for of_cell in all_marks[::-1] for mark in of_cell]
        return amount, row, (_places_with("s", by_place), _places_with("t", by_place))


def strip_excess(strip, count, row, lots):
    """Return the excess of lots for a row of the strip of count."""
    marks = ["n"] * len(row)
    for mark, places in zip(("s", "t"), lots):
        for place in places:
            marks[place] = mark
    seams = Seams(strip)
    cells = [Behind(seams, strip.head)] + [Behind(seams, strip.cell)] * count + [Behind(seams, strip.tail)]
    state = START
    total = 0
    for at, cell in enumerate(cells):
        first, beyond = at * strip.width, (at + 1) * strip.width
        state, gain = cell.put(state, tuple(marks[first:beyond]), row[first:beyond])
        total = total + gain
    return -(total + odd_ends(state))


def worst_at(strip, count, parity):
    """Return what worst returns for the strip of count: the greatest lack of a parity, a row with it, and lots."""
    track = Track(strip)
    for _ in range(count):
        track.go_on()
    end = track.ending(parity)
    if end is None:
        return None
    return track.told(end)


def lengths(strip):
    """Return whether all even rows are granted for all counts, or the least count for which one is not."""
    found = look_at_all(strip)
    if found[0] == "every":
        return ("every",)
    return found


def look_at_all(strip):
    """Return what lengths tells; with "every" a dict from each state to its greatest sum of gains.

    As soon as one more cell raises no sum, no further cell does.
    """
    if not has_row(strip.wants_of(0), 0) and not has_row(strip.wants_of(1), 0):
        return ("none",)
    track = Track(strip)
    before = {}
    sums = _raised(before, track.layers[0])
    while sums != before:
        end = track.ending(0)
        if end is not None and end[0] > 0:
            _, row, lots = track.told(end)
            return "barred", len(track.layers) - 1, row, lots
        track.go_on()
        before = sums
        sums = _raised(before, track.layers[-1])
    return "every", sums


def _places_with(sought, marks):
    """Return the tuple of the places that have a mark."""
    return tuple([place for place, mark in enumerate(marks) if mark == sought])


def _raised(sums, layer):
    """Return the dict of the greatest sums of gains, when those of one more layer are looked at."""
    raised = {state: sums[state] for state in sums}
    for state in layer:
        total = layer[state][0]
        raised[state] = max(total, raised.get(state, total))
    return raised
