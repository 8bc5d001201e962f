"""Lots: two sets of places without a common place, and what they tell of a row."""

from contentties.kinds import every_pick, is_place, is_whole
from contentties.webs import Web


def is_row(web, thing):
    """Return whether any value is a row of a web."""
    return isinstance(thing, tuple) and len(thing) == web.size and all([is_whole(item) for item in thing])


def is_lots(web, thing):
    """Return whether any value is lots of a web."""
    if not isinstance(thing, tuple) or len(thing) != 2:
        return False
    s, t = thing
    if not _is_ascending(s, web.size) or not _is_ascending(t, web.size):
        return False
    return all([place not in t for place in s])


def is_choice(web, row, thing):
    """Return whether any value is a choice of a web that has this row."""
    return isinstance(thing, Web) and thing.within(web) and thing.degrees == row


def parity(row):
    """Return the parity of a row."""
    return sum(row) % 2


def distance(one, other):
    """Return the distance of two rows of one size."""
    return sum([abs(left - right) for left, right in zip(one, other)])


def every_lots(size):
    """Yield all lots of the places below size, by their marks: 0 for neither, 1 for s, 2 for t."""
    for marks in every_pick([(0, 1, 2)] * size):
        s = tuple([place for place, mark in enumerate(marks) if mark == 1])
        t = tuple([place for place, mark in enumerate(marks) if mark == 2])
        yield s, t


def pieces(web, lots):
    """Return the ascending list of the pieces, each an ascending tuple of places."""
    s, t = lots
    least = {place: place for place in range(web.size) if place not in s and place not in t}
    for u, v, _ in web.ties:
        if u in least and v in least and least[u] != least[v]:
            least = _joined(least, least[u], least[v])
    return [tuple([place for place in least if least[place] == first])
            for first in least if least[first] == first]


def odd_pieces(web, row, lots):
    """Return the ascending list of the pieces that are odd for a row."""
    _, t = lots
    return [piece for piece in pieces(web, lots) if _weight(web, row, piece, t) % 2 == 1]


def excess(web, row, lots):
    """Return the excess of lots for a row."""
    return excess_in(framed(web, lots), row)


def framed(web, lots):
    """Return the frame of lots: what their excess takes from the web alone, whatever the row.

    It is a tuple (s, t, ties, groups): ties is the number of ties at places of t, without
    those to s, and groups has a tuple for each piece, with its places and its ties to t.
    """
    s, t = lots
    ties = sum([web.degrees[place] for place in t]) - web.crossing(s, t)
    groups = [(piece, web.crossing(piece, t)) for piece in pieces(web, lots)]
    return s, t, ties, groups


def frames(web):
    """Return the list of the frames of all lots of a web."""
    return [framed(web, lots) for lots in every_lots(web.size)]


def excess_in(frame, row):
    """Return the excess, for a row, of the lots that have this frame."""
    s, t, ties, groups = frame
    asked = sum([row[place] for place in s])
    left_over = ties - sum([row[place] for place in t])
    weights = [sum([row[place] for place in piece]) + to_t for piece, to_t in groups]
    return asked + left_over - sum([weight % 2 for weight in weights])


def _is_ascending(thing, size):
    """Return whether a value is an ascending tuple of places."""
    if not isinstance(thing, tuple) or not all([is_place(place, size) for place in thing]):
        return False
    return all([place < following for place, following in zip(thing, thing[1:])])


def _joined(least, one, other):
    """Return the least place of the piece of each place, when two pieces are found to be one."""
    ahead, behind = min(one, other), max(one, other)
    return {place: ahead if first == behind else first for place, first in least.items()}


def _weight(web, row, piece, t):
    """Return the number whose parity tells whether a piece is odd."""
    return sum([row[place] for place in piece]) + web.crossing(piece, t)
