"""Wants: finite sets of integers, kept as their runs.

A run (low, high) stands for low, low + 2, .., high. The even and the odd integers of a set
are kept apart, each as the ascending tuple of their longest runs, so that no operation has
to list the integers.
"""

from contentties.errors import TooMany, Wrong
from contentties.kinds import is_number, is_whole

MOST_NUMBERS = 40

# What an operation on two sets keeps of the integers that are, in this order, in neither
# set, in the first one alone, in the second one alone, in both.
IN_SOME = (False, True, True, True)
IN_BOTH = (False, False, False, True)
IN_JUST_ONE = (False, True, True, False)
IN_FIRST_ALONE = (False, True, False, False)


class Runs:
    """Longest runs, ascending, from which this file makes a Want without any further check."""

    def __init__(self, evens, odds):
        self.evens = evens
        self.odds = odds


class Want:
    """A set of integers that does not change."""

    def __init__(self, *numbers):
        runs = _runs_of(numbers)
        self.evens = runs.evens
        self.odds = runs.odds
        ends = _ends(runs.evens) + _ends(runs.odds)
        self.low = min(ends, default=None)
        self.high = max(ends, default=None)
        self.many = _count(runs.evens) + _count(runs.odds)
        self.corners = tuple(sorted(set(ends)))

    @classmethod
    def between(cls, low, high):
        """Return the Want of all integers from low to high."""
        _need_numbers(low, high)
        return cls(_runs_between(low, high))

    @classmethod
    def stepped(cls, low, high):
        """Return the Want of low, low + 2 .., as far as they are not above high."""
        _need_numbers(low, high)
        return want_of_run(low, high)

    def least(self, parity):
        """Return the least integer of a parity, None if there is none."""
        return min(_ends(_runs_with(self, parity)), default=None)

    def greatest(self, parity):
        """Return the greatest integer of a parity, None if there is none."""
        return max(_ends(_runs_with(self, parity)), default=None)

    def within(self, other):
        """Return whether all integers are in the other Want."""
        return self.without(other).low is None

    def without(self, other):
        """Return the Want of the integers that are not in the other one."""
        return _combined(self, other, IN_FIRST_ALONE)

    def first(self, count):
        """Return the ascending list of the count least integers, or of all if there are fewer."""
        return sorted(_first_of(self.evens, count) + _first_of(self.odds, count))[:count]

    def blocks(self):
        """Return the list of the blocks, ascending by their low."""
        with_next = self & (self - 1)
        stretched = with_next | (with_next + 1)
        alone = self.without(stretched)
        runs = [want_of_run(low, high) for low, high in alone.evens + alone.odds]
        return sorted(_stretches(stretched) + runs, key=lambda block: block.low)

    def __or__(self, other):
        if not isinstance(other, Want):
            return NotImplemented
        return _combined(self, other, IN_SOME)

    def __and__(self, other):
        if not isinstance(other, Want):
            return NotImplemented
        return _combined(self, other, IN_BOTH)

    def __xor__(self, other):
        if not isinstance(other, Want):
            return NotImplemented
        return _combined(self, other, IN_JUST_ONE)

    def __add__(self, other):
        if not is_whole(other):
            return NotImplemented
        return _moved(self, other)

    def __radd__(self, other):
        if not is_whole(other):
            return NotImplemented
        return _moved(self, other)

    def __sub__(self, other):
        if not is_whole(other):
            return NotImplemented
        return _moved(self, -other)

    def __rsub__(self, other):
        if not is_whole(other):
            return NotImplemented
        return _moved(_negated(self), other)

    def __neg__(self):
        return _negated(self)

    def __contains__(self, x):
        if not is_whole(x):
            return False
        return any([low <= x <= high for low, high in _runs_with(self, x % 2)])

    def __bool__(self):
        return self.low is not None

    def __eq__(self, other):
        return isinstance(other, Want) and self.evens == other.evens and self.odds == other.odds

    def __str__(self):
        return ", ".join(_words(self))


def want_of_run(low, high):
    """Return the Want of low, low + 2 .., as far as they are not above high, for any integers."""
    if low % 2 == 1:
        return Want(Runs((), _run(low, high)))
    return Want(Runs(_run(low, high), ()))


def want_of_runs(runs):
    """Return the Want that has these as its longest runs, the even and the odd ones in ascending order each."""
    evens = tuple([run for run in runs if run[0] % 2 == 0])
    odds = tuple([run for run in runs if run[0] % 2 == 1])
    return Want(Runs(evens, odds))


def _need_numbers(low, high):
    """Raise Wrong for the first one of two arguments that is not a number."""
    if not is_number(low):
        raise Wrong(0)
    if not is_number(high):
        raise Wrong(1)


def _runs_of(numbers):
    """Return the Runs for the arguments of Want: numbers, or the one Runs that this file made."""
    if len(numbers) == 1 and isinstance(numbers[0], Runs):
        return numbers[0]
    for place, number in enumerate(numbers):
        if not is_number(number):
            raise Wrong(place)
    ordered = sorted(set(numbers))
    if len(ordered) > MOST_NUMBERS:
        raise TooMany(MOST_NUMBERS)
    evens = _joined([(number, number) for number in ordered if number % 2 == 0])
    odds = _joined([(number, number) for number in ordered if number % 2 == 1])
    return Runs(evens, odds)


def _joined(runs):
    """Return the longest runs for ascending runs of one parity, some of which may touch."""
    longest = []
    for low, high in runs:
        touches = longest and longest[-1][1] + 2 == low
        start = longest.pop()[0] if touches else low
        longest.append((start, high))
    return tuple(longest)


def _run(low, high):
    """Return the runs of low, low + 2 .., as far as they are not above high: one or none."""
    if low > high:
        return ()
    return ((low, high - (high - low) % 2),)


def _runs_between(low, high):
    """Return the Runs of all integers from low to high."""
    odd_ahead = low % 2
    return Runs(_run(low + odd_ahead, high), _run(low + 1 - odd_ahead, high))


def _runs_with(want, parity):
    """Return the runs of a parity."""
    if parity == 1:
        return want.odds
    return want.evens


def _ends(runs):
    """Return the list of the least and the greatest integer of some runs, empty for no runs."""
    if not runs:
        return []
    return [runs[0][0], runs[-1][1]]


def _count(runs):
    """Return the number of integers in some runs."""
    return sum([(high - low) // 2 + 1 for low, high in runs])


def _first_of(runs, count):
    """Return the count least integers of some runs, or all if there are fewer."""
    found = []
    for low, high in runs:
        last = low + 2 * (count - len(found) - 1)
        found.extend(list(range(low, min(high, last) + 1, 2)))
    return found


def _combined(one, other, kept):
    """Return the Want of the integers that an operation keeps of two Wants."""
    evens = _combined_runs(one.evens, other.evens, kept)
    odds = _combined_runs(one.odds, other.odds, kept)
    return Want(Runs(evens, odds))


def _combined_runs(ones, others, kept):
    """Return what an operation keeps of the runs of one parity.

    The runs are cut at each place where a run of either set begins or has just ended.
    Between two cuts, where tells as an index of kept which of the sets contain the integers.
    """
    cuts = sorted(_cuts(ones, 1) + _cuts(others, 2))
    parts = []
    where = 0
    for (at, change), (ahead, _) in zip(cuts, cuts[1:]):
        where = where + change
        if at < ahead and kept[where]:
            parts.append((at, ahead - 2))
    return _joined(parts)


def _cuts(runs, weight):
    """Return the places where runs begin and have just ended, with the change of the index there."""
    begins = [(low, weight) for low, _ in runs]
    ends = [(high + 2, -weight) for _, high in runs]
    return begins + ends


def _moved(want, k):
    """Return the Want with each integer moved by k."""
    evens = tuple([(low + k, high + k) for low, high in want.evens])
    odds = tuple([(low + k, high + k) for low, high in want.odds])
    if k % 2 == 1:
        return Want(Runs(odds, evens))
    return Want(Runs(evens, odds))


def _negated(want):
    """Return the Want of -x for each integer x."""
    evens = tuple([(-high, -low) for low, high in want.evens[::-1]])
    odds = tuple([(-high, -low) for low, high in want.odds[::-1]])
    return Want(Runs(evens, odds))


def _stretches(want):
    """Return the list of the stretches of a Want that consists of stretches of at least two integers.

    Two of them begin, and end, at least three integers apart: there are no more begins and ends
    than runs, so that they can be listed.
    """
    begins = want.without(want + 1)
    ends = want.without(want - 1)
    lows = begins.first(begins.many)
    highs = ends.first(ends.many)
    return [Want(_runs_between(low, high)) for low, high in zip(lows, highs)]


def _words(want):
    """Return the list of the words of which the text of a Want consists."""
    runs = sorted([run for runs in (want.evens, want.odds) for run in runs])
    if not runs:
        return ["none"]
    return [f"{low}" if low == high else f"{low}..{high}/2" for low, high in runs]
