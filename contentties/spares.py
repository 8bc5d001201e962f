"""Spares: which ties are enough, which can be settled, how near a barred row is."""

from contentties.errors import Barred
from contentties.kinds import need_few_places
from contentties.lots import excess_in, frames
from contentties.spans import allowed_by, grown
from contentties.webs import MOST_TIES
from contentties.worst import every, has_row, least_excesses


def spare(web, wants, u, v):
    """Return the least number of ties of u and v with which every even row is granted, None if there is none."""
    need_few_places(web)
    if not has_row(wants, 0):
        return 0
    # Without any ties the pieces are others than with some: 0 stands for itself.
    none = _enough_from(web, wants, (u, v), 0, 0)
    odds = _enough_from(web, wants, (u, v), 1, MOST_TIES)
    evens = _enough_from(web, wants, (u, v), 2, MOST_TIES)
    return (none | odds | evens).low


def lean(web, wants):
    """Return the web in which the ties of each two places, one pair after another, are as few as spare tells."""
    told = every(web, wants)
    if told[0] == "barred":
        raise Barred(told[1], told[2])
    lowered = web
    for u in range(web.size):
        for v in range(u + 1, web.size):
            lowered = lowered.changed(u, v, spare(lowered, wants, u, v))
    return lowered


def settled(web, wants, u, v, number):
    """Return the web and the wants that are left when a number of the ties of u and v is kept, and no other."""
    return web.changed(u, v, 0), grown(wants, (u, v), -number)


def nearest_barred(web, row):
    """Return the distance of the nearest even row that is not granted, this row, and lots that bar it."""
    need_few_places(web)
    if web.size == 0:
        return None
    few = [frame for frame in frames(web) if _can_bar(frame)]
    ahead, frame = min([(max(excess_in(frame, row) + 2, sum(row) % 2), frame) for frame in few])
    return ahead, _barred_by(frame, row, ahead), frame[:2]


def _enough_from(web, wants, pair, least, most):
    """Return the Want of those of least, least + 2 .. up to most with which every even row is granted."""
    u, v = pair
    all_frames = frames(web.changed(u, v, least))
    excesses = least_excesses(all_frames, wants, 0)
    return allowed_by([(excess, _growth(frame, pair)) for frame, excess in zip(all_frames, excesses)], least, most)


def _growth(frame, pair):
    """Return by how much an excess grows with two more ties in the web between a pair of places."""
    s, t, _, _ = frame
    return 2 * sum([1 for here, there in (pair, pair[::-1]) if here in t and there not in s])


def _can_bar(frame):
    """Return whether lots bar some even row: all can but empty ones with a single piece."""
    s, t, _, groups = frame
    return len(s) + len(t) > 0 or len(groups) > 1


def _barred_by(frame, row, changes):
    """Return the row after so many changes by 1, each of which lowers the excess as long as it is not barred."""
    s, t, _, groups = frame
    if s:
        return grown(row, s[:1], -changes)
    if t:
        return grown(row, t[:1], changes)
    firsts = [piece[0] for piece, _ in groups if sum([row[place] for place in piece]) % 2 == 0]
    return grown(row, (firsts + [groups[0][0][0]])[:changes], 1)
