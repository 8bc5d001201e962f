"""Cases: whether some row from wants is granted, and why none is, case by case."""

from contentties.errors import TooMany
from contentties.grants import grant
from contentties.kinds import is_place, multiplied, need_few_places, put_at
from contentties.lots import framed, frames, is_lots
from contentties.spans import allowed_by, slope
from contentties.wants import Want

MOST_CASES = 32


def ceiling(web, wants, lots):
    """Return an integer above which no row from wants has an excess with these lots."""
    return _ceiling_in(framed(web, lots), wants)


def some(web, wants):
    """Return a granted row from wants with a choice, or a tree that shows that there is none."""
    need_few_places(web)
    if multiplied([len(want.blocks()) for want in wants]) > MOST_CASES:
        raise TooMany(MOST_CASES)
    told, found = _searched(web, frames(web), wants)
    if told == "none":
        return "none", found
    return "row", found, grant(web, found)


def is_tree(web, wants, thing):
    """Return whether any value is a tree for a web and wants."""
    # A list of what is still to be looked at, instead of calls: a tree may be very deep.
    left = [(wants, thing)]
    while left:
        here, tree = left.pop()
        if _is_part(web, here, tree):
            _, place, one, other, first, second = tree
            left.append((put_at(here, place, one), first))
            left.append((put_at(here, place, other), second))
        elif not _is_leaf(web, here, tree):
            return False
    return True


def leaves(tree):
    """Return the number of lots in a tree."""
    number = 0
    left = [tree]
    while left:
        here = left.pop()
        if here[0] == "lots":
            number = number + 1
        else:
            left.extend(here[4:])
    return number


def _ceiling_in(frame, wants):
    """Return the ceiling for the lots that have this frame."""
    s, t, ties, groups = frame
    asked = sum([wants[place].high for place in s])
    left_over = ties - sum([wants[place].low for place in t])
    return asked + left_over - len([1 for piece, to_t in groups if _is_always_odd(piece, to_t, wants)])


def _is_always_odd(piece, to_t, wants):
    """Return whether a piece is odd for every row from wants."""
    if any([wants[place].evens and wants[place].odds for place in piece]):
        return False
    return (sum([wants[place].low for place in piece]) + to_t) % 2 == 1


def _searched(web, all_frames, wants):
    """Return ("row", row) with a granted row from wants, or ("none", tree)."""
    for frame in all_frames:
        if _ceiling_in(frame, wants) < 0:
            s, t, _, _ = frame
            return "none", ("lots", s, t)
    parted = [place for place, want in enumerate(wants) if len(want.blocks()) > 1]
    if not parted:
        return "row", _granted_row(web, all_frames, wants)
    place = parted[0]
    one = wants[place].blocks()[0]
    other = wants[place].without(one)
    told, first = _searched(web, all_frames, put_at(wants, place, one))
    if told == "row":
        return told, first
    told, second = _searched(web, all_frames, put_at(wants, place, other))
    if told == "row":
        return told, second
    return "none", ("part", place, one, other, first, second)


def _granted_row(web, all_frames, wants):
    """Return a granted row from wants that are blocks of themselves, and for which no ceiling is below 0.

    There is one by [63]; with one integer instead of a want it is still there as long as no
    ceiling is below 0, so that the row is found item by item.
    """
    left = wants
    for place in range(web.size):
        evens = _allowed_from(web, all_frames, left, place, 0)
        odds = _allowed_from(web, all_frames, left, place, 1)
        left = put_at(left, place, Want(0) + ((evens | odds) & left[place]).low)
    return tuple([want.low for want in left])


def _allowed_from(web, all_frames, wants, place, least):
    """Return the Want of those of least, least + 2 .. that leave no ceiling below 0 as the only integer of a place."""
    fixed = put_at(wants, place, Want(least))
    lines = [(_ceiling_in(frame, fixed), slope(frame, (place,), 2)) for frame in all_frames]
    return allowed_by(lines, least, web.degrees[place])


def _is_leaf(web, wants, thing):
    """Return whether any value is lots, named so, whose ceiling with these wants is below 0."""
    if not _is_named(thing, "lots", 3) or not is_lots(web, thing[1:]):
        return False
    return ceiling(web, wants, thing[1:]) < 0


def _is_part(web, wants, thing):
    """Return whether any value begins as a part: with a place and two wants that make up the want there."""
    if not _is_named(thing, "part", 6) or not is_place(thing[1], web.size):
        return False
    _, place, one, other, _, _ = thing
    if not isinstance(one, Want) or not isinstance(other, Want) or not one or not other:
        return False
    return not one & other and (one | other) == wants[place]


def _is_named(thing, name, many):
    """Return whether any value is a tuple of so many items that begins with this name."""
    return isinstance(thing, tuple) and len(thing) == many and isinstance(thing[0], str) and thing[0] == name
