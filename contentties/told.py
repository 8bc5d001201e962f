"""Told: what rows tell of a web that is not seen, and the fronts of rows in complete webs."""

from contentties.kinds import pairs_of
from contentties.webs import Web


def told_back(size, most, ask):
    """Return the hidden web that grants the rows as ask tells, and the list of what was asked and said."""
    ties = []
    asked = []
    for u, v in pairs_of(size):
        found = _asked_of(size, (u, v), most, ask)
        asked.extend(found)
        ties.append((u, v, max([row[u] for row, said in found if said], default=0)))
    return Web(size, ties), asked


def parting(one, other):
    """Return a row that just one of two webs grants, None if they are equal."""
    for u, v in pairs_of(one.size):
        if one[u, v] != other[u, v]:
            return _row_at(one.size, (u, v), max(one[u, v], other[u, v]))
    return None


def front(number, row, many):
    """Return by how much many places with the greatest numbers of a row could have more in a complete web."""
    ordered = sorted(row, reverse=True)
    asked = sum(ordered[:many])
    given = sum([min(number * many, wished) for wished in ordered[many:]])
    return number * many * (many - 1) + given - asked


def fronts_hold(number, row):
    """Return whether no front of a row is below 0."""
    return all([front(number, row, many) >= 0 for many in range(1, len(row) + 1)])


def _asked_of(size, pair, most, ask):
    """Return the list of the rows asked to find one bundle, and of what was said.

    Each row halves the numbers that the bundle may still have, so that there are as many as most has bits.
    """
    asked = []
    low, high = 0, most
    while low < high:
        middle = (low + high + 1) // 2
        row = _row_at(size, pair, middle)
        said = ask(row)
        asked.append((row, said))
        if said:
            low = middle
        else:
            high = middle - 1
    return asked


def _row_at(size, pair, number):
    """Return the row with the same number at two places and 0 elsewhere."""
    u, v = pair
    row = [0] * size
    row[u] = number
    row[v] = number
    return tuple(row)
