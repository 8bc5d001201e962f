"""Spans: the numbers of ties that can be kept between two places."""

from contentties.kinds import need_few_places
from contentties.lots import every_lots, excess
from contentties.wants import Want


def span(web, row, u, v):
    """Return the Want of all numbers of ties between u and v that choices with this row keep."""
    need_few_places(web)
    others = web.changed(u, v, 0)
    most = web[u, v]
    return _span_from(others, row, (u, v), 0, most) | _span_from(others, row, (u, v), 1, most)


def _span_from(others, row, pair, least, most):
    """Return the Want of those of the numbers least, least + 2 .. up to most that can be kept.

    The web and the row are looked at without these ties. With the number least + 2 * k, the
    excess of lots is the one for least plus slope * k, and the number can be kept if and only
    if no lots have an excess below 0.
    """
    start = tuple([item - least if place in pair else item for place, item in enumerate(row)])
    low, high = 0, (most - least) // 2
    for lots in every_lots(others.size):
        spare = excess(others, start, lots)
        slope = _slope(lots, pair)
        if slope == 0 and spare < 0:
            return Want()
        if slope > 0:
            low = max(low, -(spare // slope))
        if slope < 0:
            high = min(high, spare // -slope)
    if low > high:
        return Want()
    return Want.stepped(least + 2 * low, least + 2 * high)


def _slope(lots, pair):
    """Return by how much the excess of lots grows with two more ties between a pair of places."""
    s, t = lots
    return 2 * sum([1 for place in pair if place in t]) - 2 * sum([1 for place in pair if place in s])
