"""Webs: places, and ties between two places."""

from contentties.errors import BadTie, TooFew, TooMany, Unequal, Wrong
from contentties.kinds import is_from_to, is_place, is_whole

MOST_PLACES = 60
MOST_TIES = 10 ** 9


class Web:
    """Some places and the numbers of ties between them, which do not change."""

    def __init__(self, size, ties=()):
        _need_arguments(size, ties)
        self.size = size
        self.ties = _bundles(ties)
        self.total = sum([tie[2] for tie in self.ties])
        self._numbers = {pair: number for u, v, number in self.ties for pair in ((u, v), (v, u))}
        self.degrees = _degrees(size, self._numbers)

    def __getitem__(self, at):
        u, v = at
        if (u, v) in self._numbers:
            return self._numbers[(u, v)]
        return 0

    def __iter__(self):
        raise TypeError("a web is not iterated")

    def __contains__(self, x):
        return _is_pair(x, self.size) and (x[0], x[1]) in self._numbers

    def __eq__(self, other):
        return isinstance(other, Web) and self.size == other.size and self.ties == other.ties

    def __add__(self, other):
        if not isinstance(other, Web):
            return NotImplemented
        _need_equal_sizes(self, other)
        return Web(self.size, self.ties + other.ties)

    def __sub__(self, other):
        if not isinstance(other, Web):
            return NotImplemented
        _need_equal_sizes(self, other)
        for u, v, number in other.ties:
            if number > self[u, v]:
                raise TooFew((u, v))
        return Web(self.size, [(u, v, number - other[u, v]) for u, v, number in self.ties])

    def __mul__(self, other):
        if not is_whole(other):
            return NotImplemented
        return _times(self, other)

    def __rmul__(self, other):
        if not is_whole(other):
            return NotImplemented
        return _times(self, other)

    def within(self, other):
        """Return whether both have the same size and no bundle is greater than the other one's."""
        return self.size == other.size and all([number <= other[u, v] for u, v, number in self.ties])

    def changed(self, u, v, number):
        """Return the Web with this number of ties between two different places."""
        pair = (min(u, v), max(u, v))
        others = [tie for tie in self.ties if tie[:2] != pair]
        return Web(self.size, [*others, (u, v, number)])

    def crossing(self, ones, others):
        """Return the number of ties between two lists or tuples without a common place."""
        return sum([self[u, v] for u in ones for v in others])


def _is_pair(thing, size):
    """Return whether a value is a tuple of two different places."""
    if not isinstance(thing, tuple) or len(thing) != 2:
        return False
    return is_place(thing[0], size) and is_place(thing[1], size) and thing[0] != thing[1]


def _is_tie(thing, size):
    """Return whether a value is a tuple of two different places and a number of ties."""
    if not isinstance(thing, tuple) or len(thing) != 3:
        return False
    return _is_pair(thing[:2], size) and is_from_to(thing[2], 0, MOST_TIES)


def _need_arguments(size, ties):
    """Raise the error for the first argument, or the first item of ties, that a Web cannot have."""
    if not is_from_to(size, 0, MOST_PLACES):
        raise Wrong(0)
    if not isinstance(ties, (list, tuple)):
        raise Wrong(1)
    for at, tie in enumerate(ties):
        if not _is_tie(tie, size):
            raise BadTie(at)


def _need_equal_sizes(one, other):
    """Raise Unequal if two Webs have different sizes."""
    if one.size != other.size:
        raise Unequal(one.size, other.size)


def _bundles(ties):
    """Return the ascending tuple of the bundles that are not empty, each with all of its ties."""
    bundles = []
    for u, v, number in sorted([(min(u, v), max(u, v), number) for u, v, number in ties]):
        goes_on = bundles and bundles[-1][:2] == (u, v)
        ahead = bundles.pop()[2] if goes_on else 0
        bundles.append((u, v, ahead + number))
    _need_bounds(bundles)
    return tuple([bundle for bundle in bundles if bundle[2] > 0])


def _need_bounds(bundles):
    """Raise TooMany if some bundle has more ties than a Web can have."""
    if any([bundle[2] > MOST_TIES for bundle in bundles]):
        raise TooMany(MOST_TIES)


def _degrees(size, numbers):
    """Return the tuple of the numbers of ties of all places."""
    return tuple([sum([numbers[(u, v)] for v in range(size) if (u, v) in numbers]) for u in range(size)])


def _times(web, k):
    """Return the Web with each bundle multiplied by k."""
    ties = [(u, v, k * number) for u, v, number in web.ties]
    _need_bounds(ties)
    return Web(web.size, ties)
