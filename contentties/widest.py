"""Wide wants, and ties that can be settled ahead."""

from contentties.kinds import need_few_places, put_at
from contentties.lots import frames
from contentties.spans import allowed_by, grown, slope
from contentties.wants import Want
from contentties.worst import has_row, least_excesses


def widest(web, wants, place):
    """Return the Want of all integers that stand at a place in some even row, and in granted ones alone."""
    need_few_places(web)
    all_frames = frames(web)
    return _widest_from(web, all_frames, wants, place, 0) | _widest_from(web, all_frames, wants, place, 1)


def ahead(web, wants, u, v):
    """Return the Want of all numbers of ties of u and v that can be kept for every even row from wants."""
    need_few_places(web)
    most = web[u, v]
    if not has_row(wants, 0):
        return Want.between(0, most)
    all_frames = frames(web.changed(u, v, 0))
    return _ahead_from(all_frames, wants, (u, v), 0, most) | _ahead_from(all_frames, wants, (u, v), 1, most)


def _widest_from(web, all_frames, wants, place, least):
    """Return the Want of those of least, least + 2 .. that belong to the answer of widest."""
    fixed = put_at(wants, place, Want(least))
    if not has_row(fixed, 0):
        return Want()
    return allowed_by(_lines(all_frames, fixed, (place,), 2), least, web.degrees[place])


def _ahead_from(all_frames, wants, pair, least, most):
    """Return the Want of those of least, least + 2 .. up to most that belong to the answer of ahead."""
    return allowed_by(_lines(all_frames, grown(wants, pair, -least), pair, -2), least, most)


def _lines(all_frames, wants, places, change):
    """Return the lines of all lots for even rows, if the wants at some places are moved by a change again and again."""
    excesses = least_excesses(all_frames, wants, 0)
    return [(excess, slope(frame, places, change)) for frame, excess in zip(all_frames, excesses)]
