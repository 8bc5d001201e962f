"""Best rows: the granted rows with the least displeasure, and why nothing near them is better."""

from contentties.errors import Barred
from contentties.grants import grant
from contentties.kinds import is_whole, need_few_choices
from contentties.lacks import lack, lack_in
from contentties.listing import granted_rows, row_counts
from contentties.lots import excess, frames, is_lots, is_row
from contentties.moves import near_rows
from contentties.tables import displeasure
from contentties.webs import Web


def best(web, tables):
    """Return the least displeasure, a choice that has it, and lots for each better near row that bar it."""
    value, row = min([(displeasure(tables, granted), granted) for granted in granted_rows(web)])
    all_frames = frames(web)
    reasons = [(near, lack_in(all_frames, near)[1]) for near in _better_near(web, tables, row)]
    return value, grant(web, row), reasons


def is_best(web, tables, thing):
    """Return whether any value is a displeasure, a choice that has it, and lots that bar all better near rows."""
    need_few_choices(web)
    if not isinstance(thing, tuple) or len(thing) != 3:
        return False
    value, kept, reasons = thing
    if not isinstance(kept, Web) or not kept.within(web):
        return False
    if not is_whole(value) or value != displeasure(tables, kept.degrees):
        return False
    rows = _better_near(web, tables, kept.degrees)
    if not isinstance(reasons, list) or len(reasons) != len(rows):
        return False
    return all([_is_reason(web, row, reason) for row, reason in zip(rows, reasons)])


def best_rows(web, tables):
    """Return the ascending list of the granted rows that have the least displeasure."""
    told = [(displeasure(tables, row), row) for row in granted_rows(web)]
    least = min(told)[0]
    return [row for value, row in told if value == least]


def descent(web, tables, row):
    """Return the list of granted rows from one on, each the best near row of the one ahead, as long as it is better."""
    granted = row_counts(web)
    if row not in granted:
        raise Barred(row, lack(web, row)[1])
    rows = [row]
    better = _best_near(web, tables, granted, row)
    while better is not None:
        rows.append(better)
        better = _best_near(web, tables, granted, better)
    return rows


def _better_near(web, tables, row):
    """Return the ascending list of the near rows of a row that have less displeasure."""
    here = displeasure(tables, row)
    return [near for near in near_rows(web, row) if displeasure(tables, near) < here]


def _best_near(web, tables, granted, row):
    """Return the least of the best granted near rows that have less displeasure than a row; None if there is none."""
    found = [(displeasure(tables, near), near) for near in _better_near(web, tables, row) if near in granted]
    return min(found)[1] if found else None


def _is_reason(web, row, thing):
    """Return whether any value is a tuple of a row and of lots that bar it."""
    if not isinstance(thing, tuple) or len(thing) != 2:
        return False
    if not is_row(web, thing[0]) or thing[0] != row or not is_lots(web, thing[1]):
        return False
    return excess(web, row, thing[1]) < 0
