"""What kind of value an argument is, as all files of the package ask for it."""

from contentties.errors import TooMany

MOST_SEARCHED = 5


def is_whole(thing):
    """Return whether a value is an integer, and neither True nor False."""
    return isinstance(thing, int) and not isinstance(thing, bool)


def is_from_to(thing, low, high):
    """Return whether a value is an integer from low to high."""
    return is_whole(thing) and low <= thing <= high


def is_place(thing, size):
    """Return whether a value is one of the places below size."""
    return is_from_to(thing, 0, size - 1)


def need_few_places(web):
    """Raise the error of [L] for a web with too many places to go through all its lots."""
    if web.size > MOST_SEARCHED:
        raise TooMany(MOST_SEARCHED)
