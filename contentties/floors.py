"""Floors: tables of states that show that all even rows of a strip are granted, whatever its count."""

from contentties.kinds import is_whole
from contentties.lengths import look_at_all
from contentties.states import START, Behind, Seams


def openings(strip):
    """Return the ascending list of the states that the head comes to, with their greatest gains."""
    return _gains(Behind(Seams(strip), strip.head).moves(START))


def onwards(strip, state):
    """Return the ascending list of the states that one more cell behind a state comes to, with their greatest gains."""
    return _gains(Behind(Seams(strip), strip.cell).moves(state))


def closings(strip, state):
    """Return the ascending list of the parities of rows with the tail behind a state, with their greatest gains."""
    return _gains(Behind(Seams(strip), strip.tail).endings(state))


def floors(strip):
    """Return what lengths tells, with "every" the ascending list of all states and their greatest sums of gains."""
    found = look_at_all(strip)
    if found[0] != "every":
        return found
    return "every", sorted([(state, found[1][state]) for state in found[1]])


def is_floors(strip, thing):
    """Return whether any value is a list that shows that no even row is barred for any count."""
    if not isinstance(thing, list) or not all([_is_entry(strip, entry) for entry in thing]):
        return False
    if not all([entry[0] < following[0] for entry, following in zip(thing, thing[1:])]):
        return False
    amounts = {state: amount for state, amount in thing}
    if not _are_reached(amounts, openings(strip), 0):
        return False
    seams = Seams(strip)
    cells, tails = Behind(seams, strip.cell), Behind(seams, strip.tail)
    return all([_goes_on(cells, amounts, state) and _ends_well(tails, state, amounts[state]) for state in amounts])


def _gains(found):
    """Return the ascending list of the tuples of a key and its gain."""
    return sorted([(key, found[key][0]) for key in found])


def _is_entry(strip, thing):
    """Return whether any value is a tuple of a state and an integer."""
    if not isinstance(thing, tuple) or len(thing) != 2:
        return False
    return _is_state(strip, thing[0]) and is_whole(thing[1])


def _is_state(strip, thing):
    """Return whether any value is a state of a strip."""
    if not isinstance(thing, tuple) or len(thing) != 3:
        return False
    parity, marks, joined = thing
    if not is_whole(parity) or parity not in (0, 1) or not isinstance(joined, bool):
        return False
    if not isinstance(marks, tuple) or len(marks) != strip.width or not all([_is_mark(mark) for mark in marks]):
        return False
    return not joined or marks in (("e", "e"), ("o", "o"))


def _is_mark(thing):
    """Return whether any value is a mark of a state."""
    return isinstance(thing, str) and thing in ("s", "t", "e", "o")


def _are_reached(amounts, found, ahead):
    """Return whether each state found is there, with an integer not less than its gain and what is ahead of it."""
    return all([state in amounts and amounts[state] >= ahead + gain for state, gain in found])


def _goes_on(cells, amounts, state):
    """Return whether all states that one more cell comes to behind a state are there as they must be."""
    return _are_reached(amounts, _gains(cells.moves(state)), amounts[state])


def _ends_well(tails, state, amount):
    """Return whether no even row is barred with the tail behind a state."""
    return all([parity == 1 or amount + gain < 2 for parity, gain in _gains(tails.endings(state))])
