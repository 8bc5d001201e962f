"""Moves: granted rows that lead to one another by small steps."""

from contentties.errors import Barred
from contentties.kinds import need_few_choices
from contentties.lacks import lack
from contentties.listing import row_counts
from contentties.lots import distance, is_row


def moved_by(row, steps):
    """Return the row changed by all steps of a list."""
    items = list(row)
    for place, sign in steps:
        items[place] = items[place] + sign
    return tuple(items)


def steps_towards(one, other):
    """Return the ascending list of the steps from one row towards another one."""
    return [(place, 1 if here < there else -1) for place, (here, there) in enumerate(zip(one, other)) if here != there]


def near_rows(web, row):
    """Return the ascending list of the rows at distance 2 whose integers are from 0 to the degrees."""
    need_few_choices(web)
    steps = [(place, sign) for place in range(web.size) for sign in (-1, 1)]
    reached = sorted({moved_by(row, [one, other]) for one in steps for other in steps})
    return [near for near in reached if distance(row, near) == 2 and _is_in_reach(web, near)]


def second_steps(web, one, other, step):
    """Return the ascending list of the steps that, behind a step, lead both granted rows to granted ones."""
    granted = row_counts(web)
    begun = moved_by(one, [step])
    return [second for second in steps_towards(begun, other)
            if moved_by(begun, [second]) in granted and moved_by(other, _opposites([step, second])) in granted]


def way(web, one, other):
    """Return a list of granted rows that leads from one to other by moves; raise Barred if one of both is barred."""
    granted = row_counts(web)
    for row in (one, other):
        if row not in granted:
            raise Barred(row, lack(web, row)[1])
    rows = [one]
    while rows[-1] != other:
        rows.append(_next_row(granted, rows[-1], other))
    return rows


def is_way(web, one, other, thing):
    """Return whether any value is a list of granted rows that leads from one to other by moves."""
    granted = row_counts(web)
    if not isinstance(thing, list) or not thing:
        return False
    if not all([is_row(web, row) and row in granted for row in thing]):
        return False
    if thing[0] != one or thing[-1] != other:
        return False
    return all([distance(row, following) == 2 and distance(row, other) - distance(following, other) == 2
                for row, following in zip(thing, thing[1:])])


def _is_in_reach(web, row):
    """Return whether each integer of a row is from 0 to the number of ties of its place."""
    return all([0 <= item <= degree for item, degree in zip(row, web.degrees)])


def _opposites(steps):
    """Return the list of the steps with the opposite signs."""
    return [(place, -sign) for place, sign in steps]


def _next_row(granted, row, other):
    """Return a granted row at distance 2 that is nearer to other by 2; there is one behind whichever step [82]."""
    begun = moved_by(row, steps_towards(row, other)[:1])
    return [near for near in [moved_by(begun, [second]) for second in steps_towards(begun, other)]
            if near in granted][0]
