"""What several files need: the kind of a value, the size of a web, lists and tuples looked at in plain ways."""

from contentties.errors import TooMany

GREATEST_NUMBER = 10 ** 9
MOST_SEARCHED = 5
MOST_CHOICES = 1024


def is_whole(thing):
    """Return whether a value is an integer, and neither True nor False."""
    return isinstance(thing, int) and not isinstance(thing, bool)


def is_from_to(thing, low, high):
    """Return whether a value is an integer from low to high."""
    return is_whole(thing) and low <= thing <= high


def is_number(thing):
    """Return whether a value is a number."""
    return is_from_to(thing, -GREATEST_NUMBER, GREATEST_NUMBER)


def is_place(thing, size):
    """Return whether a value is one of the places below size."""
    return is_from_to(thing, 0, size - 1)


def need_few_places(web):
    """Raise the error of [L] for a web with too many places to go through all its lots."""
    if web.size > MOST_SEARCHED:
        raise TooMany(MOST_SEARCHED)


def need_few_choices(web):
    """Raise the errors of [L] and [P] for a web with too many places, or too many choices, to go through."""
    need_few_places(web)
    if multiplied([number + 1 for _, _, number in web.ties]) > MOST_CHOICES:
        raise TooMany(MOST_CHOICES)


def pairs_of(size):
    """Return the ascending list of the pairs (u, v) of places below size, u below v."""
    return [(u, v) for u in range(size) for v in range(u + 1, size)]


def ascends(items):
    """Return whether each item of a list or tuple is less than the next one."""
    return all([item < following for item, following in zip(items, items[1:])])


def every_pick(lists):
    """Return the list of all tuples with one item of each list, ascending if these are."""
    picks = [()]
    for choices in lists:
        picks = [(*pick, item) for pick in picks for item in choices]
    return picks


def put_at(items, place, item):
    """Return the tuple in which another item stands at a place."""
    return (*items[:place], item, *items[place + 1:])


def multiplied(numbers):
    """Return the product of some numbers."""
    found = 1
    for number in numbers:
        found = found * number
    return found
