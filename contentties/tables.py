"""Tables: convex displeasures, an integer for each number of kept ties at each place."""

from contentties.kinds import is_number, need_few_choices


def is_tables(web, thing):
    """Return whether any value is tables for a web."""
    if not isinstance(thing, tuple) or len(thing) != web.size:
        return False
    return all([_is_table(degree, table) for degree, table in zip(web.degrees, thing)])


def displeasure(tables, row):
    """Return the displeasure of a row."""
    return sum([table[item] for table, item in zip(tables, row)])


def distances(web, wish):
    """Return the tables with the distance of each number from that of a wish."""
    need_few_choices(web)
    return tuple([tuple([abs(number - wished) for number in range(degree + 1)])
                  for degree, wished in zip(web.degrees, wish)])


def squares(web, wish):
    """Return the tables with the squares of these distances."""
    return tuple([tuple([apart * apart for apart in table]) for table in distances(web, wish)])


def added(one, other):
    """Return the tables with the sums of two tables."""
    return tuple([tuple([left + right for left, right in zip(ones, others)]) for ones, others in zip(one, other)])


def _is_table(degree, thing):
    """Return whether any value is a convex tuple of numbers, one for each number of ties from 0 to a degree."""
    if not isinstance(thing, tuple) or len(thing) != degree + 1 or not all([is_number(item) for item in thing]):
        return False
    rises = [following - item for item, following in zip(thing, thing[1:])]
    return all([rise <= following for rise, following in zip(rises, rises[1:])])
