"""Corners: the few rows that decide whether all even rows from wants are granted."""

from contentties.errors import TooMany
from contentties.grants import Plan
from contentties.kinds import every_pick, multiplied, need_few_places
from contentties.lots import is_choice, is_row


def corner_rows(wants, parity, *, most=64):
    """Return the ascending list of the corner rows of a parity."""
    if multiplied([len(want.corners) for want in wants]) > most:
        raise TooMany(most)
    return _rows_with(wants, parity)


def charter(web, wants, *, most=64):
    """Return the list of the even corner rows, each with a choice; raise Barred for the first without one."""
    need_few_places(web)
    rows = corner_rows(wants, 0, most=most)
    plan = Plan(web)
    return [(row, plan.choice_with(row)) for row in rows]


def is_charter(web, wants, thing):
    """Return whether any value is a list of all even corner rows, in order, each with a choice."""
    need_few_places(web)
    rows = _rows_with(wants, 0)
    if not isinstance(thing, list) or len(thing) != len(rows):
        return False
    return all([_is_entry(web, row, entry) for row, entry in zip(rows, thing)])


def _rows_with(wants, parity):
    """Return the ascending list of all corner rows of a parity."""
    return [row for row in every_pick([want.corners for want in wants]) if sum(row) % 2 == parity]


def _is_entry(web, row, thing):
    """Return whether any value is a tuple of this row and a choice with it."""
    if not isinstance(thing, tuple) or len(thing) != 2:
        return False
    return is_row(web, thing[0]) and thing[0] == row and is_choice(web, row, thing[1])
