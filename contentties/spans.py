"""Spans: the numbers of ties that can be kept between two places."""

from contentties.kinds import need_few_places
from contentties.lots import excess_in, frames
from contentties.wants import Want, want_of_run


def span(web, row, u, v):
    """Return the Want of all numbers of ties between u and v that choices with this row keep."""
    need_few_places(web)
    all_frames = frames(web.changed(u, v, 0))
    return span_in(all_frames, row, (u, v), 0, web[u, v]) | span_in(all_frames, row, (u, v), 1, web[u, v])


def span_in(all_frames, row, pair, least, most):
    """Return the Want of those of the numbers least, least + 2 .. up to most that can be kept.

    The frames are those of the web without the ties of the pair.
    """
    rest = grown(row, pair, -least)
    return allowed_by([(excess_in(frame, rest), slope(frame, pair, -2)) for frame in all_frames], least, most)


def grown(items, places, change):
    """Return the row, or the wants, in which the items at some places are grown by a change."""
    return tuple([item + change if place in places else item for place, item in enumerate(items)])


def slope(frame, places, change):
    """Return by how much an excess grows if the items at some places grow by an even change."""
    s, t, _, _ = frame
    return change * (sum([1 for place in places if place in s]) - sum([1 for place in places if place in t]))


def allowed_by(lines, least, most):
    """Return the Want of those of the integers least, least + 2 .. up to most that all lines allow.

    By [8], what lots tell is a line: a tuple (spare, slope), and the integer least + 2 * k is
    allowed if spare + slope * k is not below 0.
    """
    low, high = 0, (most - least) // 2
    for spare, growth in lines:
        if growth == 0 and spare < 0:
            return Want()
        if growth > 0:
            low = max(low, -(spare // growth))
        if growth < 0:
            high = min(high, spare // -growth)
    return want_of_run(least + 2 * low, least + 2 * high)
