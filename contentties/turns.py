"""Turns: walks that lead one choice to another one, adding and taking away a tie by turns.

The differences of two webs are kept as a dict from each place to a dict from each other place,
as far as there is a difference, to the number of the other web's ties minus that of the one's.
"""

from contentties.errors import TooFew, TooMany, Unequal
from contentties.kinds import is_place, need_few_places
from contentties.moves import moved_by
from contentties.webs import MOST_TIES, Web

MOST_DIFFERENT = 1000


class Rest:
    """The differences of two webs that no pass has gone over so far."""

    def __init__(self, one, other):
        self.left = _differences(one, other)

    def passed(self, here, sign):
        """Go over one tie of a sign from a place, and return where this leads; None if no such tie is left."""
        found = [there for there in self.left[here] if sign * self.left[here][there] > 0]
        if not found:
            return None
        there = found[0]
        self.left[here][there] = self.left[here][there] - sign
        self.left[there][here] = self.left[there][here] - sign
        return there

    def round_from(self, start, sign):
        """Go from a place, with a sign at first, until it is come to with the other sign; return the places on the way.

        The place where it ends is left out; nothing is there if no tie is left to begin with.
        With equal degrees there is always a tie to go on.
        """
        there = self.passed(start, sign)
        if there is None:
            return []
        places = [start]
        while there != start or len(places) % 2 == 1:
            places.append(there)
            there = self.passed(there, _sign_at(len(places) - 1, sign))
        return places


def turned(web, walk, sign):
    """Return the web in which each bundle is changed by the signs of its passes."""
    changes = {}
    for u, v, of_pass in _passes(walk, sign):
        pair = (min(u, v), max(u, v))
        changes[pair] = changes.get(pair, 0) + of_pass
    changed = [(pair, web[pair] + changes[pair]) for pair in sorted(list(changes))]
    for pair, number in changed:
        if number < 0:
            raise TooFew(pair)
    if any([number > MOST_TIES for _, number in changed]):
        raise TooMany(MOST_TIES)
    others = [tie for tie in web.ties if tie[:2] not in changes]
    return Web(web.size, others + [(*pair, number) for pair, number in changed])


def trail(one, other, step):
    """Return a walk that begins with a step from one web towards another one, and fits them."""
    _need_few_differences(one, other)
    place, sign = step
    begun = moved_by(one.degrees, [step])
    rest = Rest(one, other)
    walk = [place, rest.passed(place, sign)]
    while not _leads(begun, other.degrees, walk[-1], sign):
        # The degrees ask for no more ties of this sign at the place: one of the other sign is left there.
        sign = -sign
        walk.append(rest.passed(walk[-1], sign))
    return walk


def is_trail(one, other, step, thing):
    """Return whether any value is a walk that begins with a step, fits both webs, and ends with a step."""
    if not _is_walk(one, thing) or len(thing) < 2:
        return False
    place, sign = step
    if thing[0] != place or not _fits(one, other, thing, sign):
        return False
    begun = moved_by(one.degrees, [step])
    return _leads(begun, other.degrees, thing[-1], sign if len(thing) % 2 == 0 else -sign)


def turn(one, other):
    """Return a closed walk that leads one web to another one with the same degrees."""
    need_few_places(one)
    need_few_places(other)
    if one.degrees != other.degrees:
        raise Unequal(one.degrees, other.degrees)
    _need_few_differences(one, other)
    if one == other:
        return []
    rest = Rest(one, other)
    walk = [min([place for place in rest.left if rest.left[place]])]
    at = 0
    while at < len(walk):
        # A round is put in where the walk comes to a place at which ties are left; the signs behind it stay.
        found = rest.round_from(walk[at], _sign_at(at, 1))
        walk = walk[:at] + found + walk[at:]
        at = at + (0 if found else 1)
    return walk


def is_turn(one, other, thing):
    """Return whether any value is a closed walk that leads one web to another one with the same degrees."""
    if one.degrees != other.degrees or not _is_walk(one, thing):
        return False
    if one == other:
        return not thing
    if not thing or thing[0] != thing[-1] or not _fits(one, other, thing, 1):
        return False
    return turned(one, thing, 1) == other


def _differences(one, other):
    """Return the differences of two webs of the same size."""
    left = {place: {} for place in range(one.size)}
    for u, v in sorted({tie[:2] for tie in one.ties + other.ties}):
        difference = other[u, v] - one[u, v]
        if difference != 0:
            left[u][v] = difference
            left[v][u] = difference
    return left


def _need_few_differences(one, other):
    """Raise TooMany if the differences of two webs sum up to more than a walk may pass."""
    left = _differences(one, other)
    if sum([abs(left[u][v]) for u in left for v in left[u]]) > 2 * MOST_DIFFERENT:
        raise TooMany(MOST_DIFFERENT)


def _is_walk(web, thing):
    """Return whether any value is a walk along the places of a web."""
    if not isinstance(thing, list) or not all([is_place(place, web.size) for place in thing]):
        return False
    return all([place != following for place, following in zip(thing, thing[1:])])


def _sign_at(at, sign):
    """Return the sign of a pass, given that of the even ones."""
    return sign if at % 2 == 0 else -sign


def _passes(walk, sign):
    """Return the list of the tuples of the two places and the sign of each pass of a walk."""
    return [(u, v, _sign_at(at, sign)) for at, (u, v) in enumerate(zip(walk, walk[1:]))]


def _fits(one, other, walk, sign):
    """Return whether a walk, with a sign, fits two webs."""
    left = _differences(one, other)
    for u, v, of_pass in _passes(walk, sign):
        if of_pass * left[u].get(v, 0) <= 0:
            return False
        left[u][v] = left[u][v] - of_pass
        left[v][u] = left[v][u] - of_pass
    return True


def _leads(row, towards, place, sign):
    """Return whether a step at a place leads from one row towards another one."""
    return sign * (towards[place] - row[place]) > 0
