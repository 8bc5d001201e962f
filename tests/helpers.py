"""What several tests use: values of all kinds, exact looks at errors, plain searches."""

import itertools
import random
import unittest

from contentties.cells import Cell, Strip
from contentties.drafts import Draft
from contentties.errors import TooMany
from contentties.wants import Want
from contentties.webs import Web


class Odd:
    """An own class, an object of which is never described by the document."""


class Agreeing:
    """An object that says to be equal to everything."""

    def __eq__(self, other):
        return True

    __hash__ = None


# Values of many kinds, none of which is an integer.
NO_INTEGERS = (
    None, True, False, "", "1", "0", b"1", b"", (), (1,), (0, 1), (0, 1, 2), [], [0], [0, 1], {}, {0: 1},
    set(), {1}, frozenset([0]), range(3), Odd, Odd(), len, Want(), Want(1), Web(0), Web(2, [(0, 1, 1)]),
    Draft(Web(2)), TooMany(1), [[[[[[[[]]]]]]]], "x" * 300,
)


def same(one, other):
    """Whether two values are the same, truths not being taken for 0 and 1."""
    if type(one) is not type(other):
        return False
    if isinstance(one, (tuple, list)):
        return len(one) == len(other) and all(same(a, b) for a, b in zip(one, other))
    return one == other


class Case(unittest.TestCase):
    """A test case that looks at errors and results exactly."""

    def fails(self, kind, fields, call, *arguments, **named):
        """The call raises an error of just this class, with these fields."""
        try:
            result = call(*arguments, **named)
        except Exception as error:
            self.assertIs(type(error), kind, f"{arguments!r} {named!r}: {error!r}")
            for name, value in fields.items():
                found = getattr(error, name)
                self.assertTrue(same(found, value), f"{arguments!r}: {name} is {found!r}, not {value!r}")
            return error
        return self.fail(f"{arguments!r} {named!r} gave {result!r}")

    def same(self, found, expected):
        self.assertTrue(same(found, expected), f"{found!r} is not {expected!r}")

    def truth(self, found, expected, about=""):
        self.assertIs(found, expected, about)


def members(want):
    """The ascending list of the integers of a Want, by its runs."""
    runs = want.evens + want.odds
    return sorted(x for low, high in runs for x in range(low, high + 1, 2))


def want_of(numbers):
    """The Want of any number of numbers."""
    numbers = sorted(numbers)
    made = Want()
    for at in range(0, len(numbers), 40):
        made = made | Want(*numbers[at:at + 40])
    return made


def pairs_of(size):
    return list(itertools.combinations(range(size), 2))


def all_choices(web):
    """All choices of a small web, by going through all numbers of all bundles."""
    pairs = pairs_of(web.size)
    for numbers in itertools.product(*[range(web[pair] + 1) for pair in pairs]):
        yield Web(web.size, [(u, v, number) for (u, v), number in zip(pairs, numbers)])


def plain_lots(size):
    """All lots, by plain products in the order that the document gives."""
    for marks in itertools.product((0, 1, 2), repeat=size):
        yield (tuple(v for v in range(size) if marks[v] == 1), tuple(v for v in range(size) if marks[v] == 2))


def plain_pieces(web, lots):
    """The pieces, found by walking along ties."""
    free = [v for v in range(web.size) if v not in lots[0] and v not in lots[1]]
    found = []
    while free:
        piece, edge = {free[0]}, [free[0]]
        while edge:
            here = edge.pop()
            for v in free:
                if v not in piece and web[here, v] > 0:
                    piece.add(v)
                    edge.append(v)
        free = [v for v in free if v not in piece]
        found.append(tuple(sorted(piece)))
    return sorted(found)


def plain_excess(web, row, lots):
    """The excess, word by word as the document defines it."""
    s, t = lots
    total = sum(row[v] for v in s)
    for v in t:
        total += sum(web[v, w] for w in range(web.size) if w != v)
        total -= sum(web[v, w] for w in s)
        total -= row[v]
    for piece in plain_pieces(web, lots):
        ties = sum(web[v, w] for v in piece for w in t)
        total -= (sum(row[v] for v in piece) + ties) % 2
    return total


def plain_distance(one, other):
    return sum(abs(a - b) for a, b in zip(one, other))


def multiplied(numbers):
    """The product of some numbers."""
    product = 1
    for number in numbers:
        product *= number
    return product


def granted(web):
    """The rows that a small web grants."""
    return {kept.degrees for kept in all_choices(web)}


def plain_lack(rows, row):
    """The lack of a row of a web that grants these rows."""
    return min(plain_distance(row, other) for other in rows)


def rows_from(wants, parity=None):
    """All rows from small wants, in ascending order, those of a parity alone if one is asked for."""
    rows = itertools.product(*[members(want) for want in wants])
    return [row for row in rows if parity is None or sum(row) % 2 == parity]


def random_wants(rng, web, most=3, beyond=1):
    """Wants of at most so many integers, from below 0 to above the degrees."""
    wants = []
    for degree in web.degrees:
        many = rng.randint(1, most)
        wants.append(Want(*[rng.randint(-beyond, degree + beyond) for _ in range(many)]))
    return tuple(wants)


def kept_web(rng, web):
    """A choice of a web."""
    return Web(web.size, [(u, v, rng.randint(0, number)) for u, v, number in web.ties])


def random_web(rng, size, most, empty=0.2):
    """A web of a size, some bundles of which are empty."""
    return Web(size, [(u, v, 0 if rng.random() < empty else rng.randint(0, most)) for u, v in pairs_of(size)])


def random_row(rng, web, beyond=2):
    """A row with integers from below 0 to above the degrees."""
    return tuple(rng.randint(-beyond, degree + beyond) for degree in web.degrees)


def seeded(number):
    return random.Random(number)


def random_strip(rng, width, most=9, many=3, ties=(0, 1, 2, 3, 6)):
    def cell():
        wants = [Want(*[rng.randint(0, most) for _ in range(rng.randint(1, many))]) for _ in range(width)]
        return Cell(wants, rng.choice(ties) if width == 2 else 0)
    return Strip(cell(), cell(), cell(), [[rng.choice(ties) for _ in range(width)] for _ in range(width)])


def mild_strip(rng, width):
    """A strip with small wishes and many ties, of which all rows may be granted."""
    def cell(low, high):
        wants = [rng.choice((Want(low), Want(high), Want(low, high))) for _ in range(width)]
        return Cell(wants, rng.choice((2, 4, 6)) if width == 2 else 0)
    ends, middle = rng.choice(((1, 2), (0, 1), (2, 3))), rng.choice(((2, 3), (2, 4), (4, 5), (3, 6)))
    return Strip(cell(*ends), cell(*middle), cell(*ends), [[rng.choice((3, 5, 6)) for _ in range(width)]
                                                           for _ in range(width)])
