"""Shapes: webs of a simple form, and what is made of webs and rows by new names."""

from contentties.errors import TooMany
from contentties.webs import MOST_PLACES, Web


def complete(size, number):
    """Return the Web in which each bundle has this number of ties."""
    return Web(size, [(u, v, number) for u in range(size) for v in range(u + 1, size)])


def line(size, number):
    """Return the Web in which each place and the next one have this number of ties."""
    return Web(size, _along(size, number))


def ring(size, number):
    """Return the line, closed by as many ties between the last and the first place."""
    return Web(size, [*_along(size, number), (size - 1, 0, number)])


def beside(one, other):
    """Return the Web with the places of one Web, and behind them those of the other."""
    size = one.size + other.size
    if size > MOST_PLACES:
        raise TooMany(MOST_PLACES)
    behind = [(u + one.size, v + one.size, number) for u, v, number in other.ties]
    return Web(size, [*one.ties, *behind])


def renamed(web, order):
    """Return the Web in which each place v is called order[v]."""
    return Web(web.size, [(order[u], order[v], number) for u, v, number in web.ties])


def moved(row, order):
    """Return the tuple in which the item at each v stands at order[v]."""
    item_at = {place: item for place, item in zip(order, row)}
    return tuple([item_at[place] for place in range(len(row))])


def _along(size, number):
    """Return the list of the ties between each place and the next one."""
    return [(v, v + 1, number) for v in range(size - 1)]
