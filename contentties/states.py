"""States along a strip [72], and what comes of one more cell behind them.

Lots give each place a mark: "s", "t", or "n" for neither; the state START stands for what is
ahead of the head. Most of what comes of a cell does not depend on the parities ahead of it, and
is found once. The parities of the places of a cell are the bits of an integer, bit 0 for place 0.
"""

from contentties.kinds import every_pick

START = (0, (), False)
MARKS = ("s", "t", "n")
NEITHER = ("n", "n")
WORTH = {"s": -1, "t": 1, "n": 0}


class Joint:
    """What the ties from the last cell to the marks of the next one do, whatever the parities are.

    They have a gain, turn bits of the places in neither, and join both of these or not. For each
    piece of the last cell, followed has the bit to which it goes on, 0 if it ends, and 1 if ties
    to t change its parity, otherwise 0.
    """

    def __init__(self, links, last, joined):
        in_t = [link for link, mark in zip(links, last) if mark == "t"]
        in_neither = [link for link, mark in zip(links, last) if mark == "n"]
        from_t = sum([2 * to_t + to_neither for to_t, to_neither, _, _ in in_t])
        self.gain = -from_t - sum([to_t for to_t, _, _, _ in in_neither])
        self.bits = 0
        for _, _, odd, _ in in_t:
            self.bits = self.bits ^ odd
        pieces = [(reach, to_t % 2) for to_t, _, _, reach in in_neither]
        if joined:
            pieces = [(pieces[0][0] | pieces[1][0], pieces[0][1] ^ pieces[1][1])]
        self.joined = any([reach == 3 for reach, _ in pieces])
        self.followed = [(reach & -reach, change) for reach, change in pieces]

    def met_by(self, odds):
        """Return the gain and the turned bits, for the parities of the pieces of the last cell."""
        gain, bits = self.gain, self.bits
        for odd, (bit, change) in zip(odds, self.followed):
            if odd != change and bit == 0:
                gain = gain + 1
            if odd != change:
                bits = bits ^ bit
        return gain, bits


class Seams:
    """The joints between two cells of a strip, and the marks of states, as far as they have been looked at."""

    def __init__(self, strip):
        self.whole = strip
        self.links = {}
        self.joints = {}
        self.named = {}

    def joint(self, last, joined, marks):
        """Return the joint between places with these marks, those of the last cell being joined or not."""
        key = (last, joined, marks)
        if key not in self.joints:
            if marks not in self.links:
                self.links[marks] = [_link(numbers, marks) for numbers in self.whole.onward]
            self.joints[key] = Joint(self.links[marks], last, joined)
        return self.joints[key]

    def names(self, marks, joined):
        """Return the list of the marks that a state has for all bits of the places of its cell."""
        key = (marks, joined)
        if key not in self.named:
            self.named[key] = [_name(marks, joined, bits) for bits in range(1 << len(marks))]
        return self.named[key]


class Behind:
    """What comes of a cell of a strip behind any state, as far as it has been looked at."""

    def __init__(self, seams, cell):
        self.seams = seams
        self.cell = cell
        self.picks = []
        self.found = {}
        self.ended = {}

    def put(self, state, marks, numbers):
        """Return the state and the gain when the cell is put behind a state with these marks and numbers."""
        parity, last, joined = state
        joint = self.seams.joint(_as_in_lots(last), joined, marks)
        gain, bits = joint.met_by(_odds(last, joined))
        both = joint.joined or _is_tied(self.cell, marks)
        told = _picked(self.cell, marks, [[number] for number in numbers])[0]
        return (parity ^ told[0], self.seams.names(marks, both)[bits ^ told[1]], both), gain + told[2]

    def moves(self, state):
        """Return a dict from each state that is come to behind a state, to the greatest gain, marks and numbers."""
        if state not in self.found:
            parity, last, joined = state
            if parity == 0:
                self.found[state] = self._moves_from(last, joined)
            else:
                other = self.moves((0, last, joined))
                self.found[state] = {(1 - key[0], key[1], key[2]): other[key] for key in other}
        return self.found[state]

    def endings(self, state):
        """Return a dict from each parity of the whole row, if it ends behind a state, to the same with all ends."""
        if state not in self.ended:
            best = {}
            for reached, (gain, marks, numbers) in self.moves(state).items():
                total = gain + odd_ends(reached)
                if reached[0] not in best or total > best[reached[0]][0]:
                    best[reached[0]] = (total, marks, numbers)
            self.ended[state] = best
        return self.ended[state]

    def _moves_from(self, last, joined):
        """Return the moves behind an even state."""
        if not self.picks:
            self.picks = [(marks, _best_picks(self.cell, marks)) for marks in every_pick([MARKS] * len(self.cell))]
        best = {}
        in_lots, odds = _as_in_lots(last), _odds(last, joined)
        for marks, picks in self.picks:
            joint = self.seams.joint(in_lots, joined, marks)
            ahead, bits = joint.met_by(odds)
            both = joint.joined or _is_tied(self.cell, marks)
            names = self.seams.names(marks, both)
            for parity, changed, worth, numbers in picks:
                reached = (parity, names[bits ^ changed], both)
                if reached not in best or ahead + worth > best[reached][0]:
                    best[reached] = (ahead + worth, marks, numbers)
        return best


def odd_ends(state):
    """Return the number of odd pieces that come to their end behind a state."""
    _, marks, joined = state
    return min(marks.count("o"), 1) if joined else marks.count("o")


def _as_in_lots(last):
    """Return the marks of a state as lots give them, without parities."""
    return tuple([mark if mark in ("s", "t") else "n" for mark in last])


def _odds(last, joined):
    """Return the list of the parities of the pieces of a state."""
    odds = [1 if mark == "o" else 0 for mark in last if mark in ("e", "o")]
    return odds[:1] if joined else odds


def _is_tied(cell, marks):
    """Return whether inner ties make one piece of both places of a cell."""
    return cell.inner > 0 and marks == NEITHER


def _link(numbers, marks):
    """Return what is known of the ties from one place to the marks of the next cell, given their numbers.

    It is a tuple of the ties to t, those to neither, and the bits of the places in neither to
    which there is an odd number of ties, and any tie.
    """
    to_t = sum([number for number, mark in zip(numbers, marks) if mark == "t"])
    in_neither = [(place, number) for place, (number, mark) in enumerate(zip(numbers, marks)) if mark == "n"]
    odd = sum([(number % 2) << place for place, number in in_neither])
    reach = sum([1 << place for place, number in in_neither if number > 0])
    return to_t, sum([number for _, number in in_neither]), odd, reach


def _name(marks, joined, bits):
    """Return the marks of a state for the bits of the places of its cell; joined ones have the parity of all bits."""
    odds = [(bits >> place) & 1 for place in range(len(marks))]
    if joined:
        odds = [sum(odds) % 2] * len(odds)
    return tuple([_mark_of(mark, odd) for mark, odd in zip(marks, odds)])


def _mark_of(mark, odd):
    """Return the mark that a state has for a place, given the parity of its piece."""
    if mark != "n":
        return mark
    return "o" if odd == 1 else "e"


def _best_picks(cell, marks):
    """Return the best picks of a cell with marks, one for each parity and bits that there are."""
    best = {}
    for pick in _picked(cell, marks, [_best_numbers(mark, want) for mark, want in zip(marks, cell.wishes)]):
        key = pick[:2]
        if key not in best or pick[2] > best[key][2]:
            best[key] = pick
    return list(best.values())


def _picked(cell, marks, lists):
    """Return the picks of a cell with marks, and a number of each list.

    A pick is a tuple of the parity of the numbers, the bits that they and the inner ties turn,
    what both gain, and the numbers.
    """
    inner = [cell.inner if mark == "n" and "t" in marks else 0 for mark in marks]
    picks = [(0, sum([(number % 2) << place for place, number in enumerate(inner)]), -_toll(cell, marks), ())]
    for place, mark in enumerate(marks):
        turns = 1 << place if mark == "n" else 0
        picks = [(parity ^ (number % 2), bits ^ (turns * (number % 2)), gain + WORTH[mark] * number, (*numbers, number))
                 for parity, bits, gain, numbers in picks for number in lists[place]]
    return picks


def _best_numbers(mark, want):
    """Return the list of the best integer of each parity that a want has, for a place with a mark."""
    if mark == "s":
        ends = [want.least(0), want.least(1)]
    else:
        ends = [want.greatest(0), want.greatest(1)]
    return [end for end in ends if end is not None]


def _toll(cell, marks):
    """Return what the inner ties of a cell cost: 1 for each end in t, nothing if the other end is in s."""
    if len(marks) == 1 or "s" in marks:
        return 0
    return cell.inner * marks.count("t")
