"""Notation: webs and wants as texts, each in just one way."""

from contentties.errors import NoText
from contentties.kinds import ascends, is_from_to, is_number
from contentties.wants import Want, want_of_runs
from contentties.webs import MOST_PLACES, MOST_TIES, Web

MOST_DIGITS = 10


def write_web(web):
    """Return the text of a web."""
    return " ".join([f"web {web.size}"] + [f"{u}-{v}={number}" for u, v, number in web.ties])


def write(web, wants):
    """Return the text of a web with wants."""
    return "\n".join([write_web(web)] + [_head_of(place) + str(want) for place, want in enumerate(wants)])


def read_want(text):
    """Return the Want that has this text; raise NoText for any other value."""
    want = want_in(text) if isinstance(text, str) else None
    if want is None:
        raise NoText(1)
    return want


def read_web(text):
    """Return the Web that has this text; raise NoText for any other value."""
    web = _web_in(text) if isinstance(text, str) else None
    if web is None:
        raise NoText(1)
    return web


def read(text):
    """Return the web and the wants that have this text; raise NoText for any other value."""
    lines = text.split("\n") if isinstance(text, str) else [""]
    web = read_web(lines[0])
    wants = []
    for place, row in enumerate(lines[1:]):
        want = _want_at(web, place, row)
        if want is None:
            raise NoText(place + 2)
        wants.append(want)
    if len(wants) < web.size:
        raise NoText(len(lines) + 1)
    return web, tuple(wants)


def number_in(text):
    """Return the number that is written so, None if there is none."""
    digits = text.removeprefix("-")
    # The number of digits comes first: Python refuses to read a number with thousands of them.
    if len(digits) > MOST_DIGITS or not digits.isascii() or not digits.isdigit():
        return None
    number = int(text)
    return number if is_number(number) and str(number) == text else None


def want_in(text):
    """Return the Want that is written so, None if there is none."""
    if text == "none":
        return Want()
    runs = [_run_in(word) for word in text.split(", ")]
    if any([run is None for run in runs]) or not ascends(runs):
        return None
    if not all([_are_apart([run for run in runs if run[0] % 2 == parity]) for parity in (0, 1)]):
        return None
    return want_of_runs(runs)


def _run_in(word):
    """Return the run that is written so, None if there is none."""
    number = number_in(word)
    if number is not None:
        return number, number
    low_word, _, rest = word.partition("..")
    low, high = number_in(low_word), number_in(rest.removesuffix("/2"))
    if low is None or high is None or not rest.endswith("/2"):
        return None
    return (low, high) if low < high and (high - low) % 2 == 0 else None


def _are_apart(runs):
    """Return whether an integer is missing between each two ascending runs of one parity."""
    return all([run[1] + 2 < following[0] for run, following in zip(runs, runs[1:])])


def _web_in(row):
    """Return the Web that is written so, None if there is none."""
    words = row.split(" ")
    if words[0] != "web" or len(words) < 2:
        return None
    size = number_in(words[1])
    ties = [_tie_in(word) for word in words[2:]]
    if not is_from_to(size, 0, MOST_PLACES) or not all([_is_bundle(tie, size) for tie in ties]):
        return None
    return Web(size, ties) if ascends([tie[:2] for tie in ties]) else None


def _tie_in(word):
    """Return the two places and the number of ties that are written so, each None if it is none."""
    pair, _, number = word.partition("=")
    u, _, v = pair.partition("-")
    return number_in(u), number_in(v), number_in(number)


def _is_bundle(tie, size):
    """Return whether what a word says is a bundle of a web, with its lower place first and at least one tie."""
    u, v, number = tie
    return is_from_to(v, 0, size - 1) and is_from_to(u, 0, v - 1) and is_from_to(number, 1, MOST_TIES)


def _want_at(web, place, row):
    """Return the want that the line of a place tells, None if the line cannot stand there, as with an empty want."""
    head = _head_of(place)
    if place >= web.size or not row.startswith(head):
        return None
    want = want_in(row.removeprefix(head))
    return want if want else None


def _head_of(place):
    """Return what stands in the line of a place ahead of its want."""
    return f"at {place} "
