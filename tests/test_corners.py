"""[3], [4], [7], [53]: corners."""

import inspect
import itertools
import unittest

from contentties import corners as corners_file
from contentties.corners import charter, corner_rows, is_charter
from contentties.errors import Barred, TooMany
from contentties.lots import is_choice, is_lots
from contentties.shapes import complete, line, ring
from contentties.wants import Want
from contentties.webs import Web
from contentties.worst import every
from tests.helpers import (
    NO_INTEGERS, Agreeing, Case, granted, plain_excess, random_wants, random_web, seeded,
)

MOST = 10 ** 9
FAR = 10 ** 12
THREE, GAP = Web(2, [(0, 1, 3)]), Want(0, 3)
FOUR = Want(0, 1, 4, 5)


def plain_corners(want):
    """The corners of a small want, by its runs."""
    ends = [(runs[0][0], runs[-1][1]) for runs in (want.evens, want.odds) if runs]
    return {x for pair in ends for x in pair}


def plain_corner_rows(wants, parity):
    rows = itertools.product(*[sorted(plain_corners(want)) for want in wants])
    return [row for row in rows if sum(row) % 2 == parity]


class Interface(Case):
    def test_names_and_arguments(self):
        for name, arguments in {"corner_rows": ["wants", "parity", "most"], "charter": ["web", "wants", "most"],
                                "is_charter": ["web", "wants", "thing"]}.items():
            call = getattr(corners_file, name)
            signature = inspect.signature(call)
            self.assertEqual(list(signature.parameters), arguments)
            self.assertEqual(call.__module__, "contentties.corners")
            if "most" in arguments:
                self.assertEqual(signature.parameters["most"].kind, inspect.Parameter.KEYWORD_ONLY)
                self.assertEqual(signature.parameters["most"].default, 64)

    def test_example(self):
        self.same([corner_rows((Want(0, 1, 2, 4, 5), Want(1)), 0),
                   charter(THREE, (GAP, GAP)) == [((0, 0), Web(2)), ((3, 3), THREE)]], [[(1, 1), (5, 1)], True])


class CornerRows(Case):
    def test_small_wants(self):
        rng = seeded(100)
        for _ in range(200):
            size = rng.randint(0, 3)
            wants = tuple(Want(*[rng.randint(-6, 9) for _ in range(rng.randint(1, 7))]) for _ in range(size))
            for parity in (0, 1):
                self.same(corner_rows(wants, parity), plain_corner_rows(wants, parity))

    def test_no_rows(self):
        self.same((corner_rows((), 0), corner_rows((), 1)), ([()], []))
        self.same((corner_rows((Want(1), Want(2, 6)), 0), corner_rows((Want(1), Want(2, 6)), 1)),
                  ([], [(1, 2), (1, 6)]))

    def test_wide_wants(self):
        wants = (Want.between(-MOST, MOST), Want.stepped(1, MOST) + FAR, Want.stepped(0, 10) | Want(3))
        self.same(corner_rows(wants, 0), plain_corner_rows(wants, 0))
        self.same(len(corner_rows(wants, 0)) + len(corner_rows(wants, 1)), 4 * 2 * 3)

    def test_most(self):
        # 64 corner rows, and more.
        self.same(len(corner_rows((FOUR,) * 3, 0)), 32)
        self.same(len(corner_rows((FOUR,) * 3 + (Want(5),) * 57, 0)), 32)
        self.fails(TooMany, {"limit": 64}, corner_rows, (FOUR,) * 3 + (GAP,), 0)
        self.fails(TooMany, {"limit": 64}, corner_rows, (FOUR,) * 3 + (Want(0, 2),) + (Want(1),) * 56, 1)
        self.fails(TooMany, {"limit": 64}, corner_rows, (Want(0, 1, 2),) * 4, 0)
        self.same(len(corner_rows((Want(0, 1, 2),) * 4, 0, most=81)), 41)
        self.fails(TooMany, {"limit": 80}, corner_rows, (Want(0, 1, 2),) * 4, 0, most=80)
        # The product counts, not the rows of this parity.
        self.fails(TooMany, {"limit": 64}, corner_rows, (Want(0, 2),) * 7, 1)
        self.same(corner_rows((Want(0, 2),) * 6, 1), [])

    def test_least_and_greatest_most(self):
        self.same(corner_rows((Want(4), Want(6)), 0, most=1), [(4, 6)])
        self.same(corner_rows((), 0, most=1), [()])
        self.fails(TooMany, {"limit": 1}, corner_rows, (Want(4), GAP), 0, most=1)
        self.same(len(corner_rows((FOUR,) * 5, 0, most=1024)), 512)
        self.same(corner_rows((FOUR,) * 5, 1, most=1024), plain_corner_rows((FOUR,) * 5, 1))
        self.fails(TooMany, {"limit": 1024}, corner_rows, (FOUR,) * 5 + (GAP,), 0, most=1024)
        self.fails(TooMany, {"limit": 1023}, corner_rows, (FOUR,) * 5, 0, most=1023)
        self.fails(TooMany, {"limit": 1024}, corner_rows, (Want.between(0, MOST),) * 60, 0, most=1024)
        self.same(len(corner_rows((Want(0, 2),) * 10 + (Want(0),) * 50, 0, most=1024)), 1024)


class Charters(Case):
    def told(self, web, wants, **most):
        """The charter has each even corner row with a choice; it is returned."""
        found = charter(web, wants, **most)
        self.assertIs(type(found), list)
        self.same([row for row, _ in found], plain_corner_rows(wants, 0))
        for entry in found:
            self.assertEqual((type(entry), len(entry)), (tuple, 2))
            self.truth(is_choice(web, *entry), True)
        self.truth(is_charter(web, wants, found), True)
        return found

    def barred(self, web, wants, row):
        """The first corner row that is not granted is told, and lots that bar it."""
        error = self.fails(Barred, {"row": row}, charter, web, wants)
        self.truth(is_lots(web, error.lots), True)
        self.assertLess(plain_excess(web, row, error.lots), 0)
        self.truth(every(web, wants)[0] == "barred", True)

    def test_small_webs(self):
        rng = seeded(101)
        answers = []
        for size, most, times in ((0, 0, 1), (1, 0, 8), (2, 4, 40), (3, 3, 40), (4, 2, 15), (5, 1, 6)):
            for _ in range(times):
                web = random_web(rng, size, most, 0.1)
                wants = random_wants(rng, web, 2, 0)
                rows = granted(web)
                lost = [row for row in plain_corner_rows(wants, 0) if row not in rows]
                answers.append(len(lost) > 0)
                if lost:
                    self.barred(web, wants, lost[0])
                else:
                    self.told(web, wants)
        self.assertGreater(min(answers.count(True), answers.count(False)), 20)

    def test_large_bundles(self):
        half = Want.between(MOST // 2, MOST)
        self.told(complete(3, MOST), (half,) * 3)
        self.told(complete(5, MOST), (half, Want.stepped(MOST // 2, MOST), half, Want(MOST), Want(MOST - 1)))
        self.barred(complete(5, MOST), (Want(0), Want(0), Want(0), Want(2), Want.stepped(2, MOST)), (0, 0, 0, 2, MOST))
        self.barred(complete(2, MOST), (Want(-1, 0, 1), Want(1)), (-1, 1))

    def test_no_even_row(self):
        for web, wants in ((THREE, (Want(1), Want(2))), (Web(1), (Want(5, -7),)), (Web(5), (Want(1),) * 5)):
            self.same(self.told(web, wants), [])
            self.truth(is_charter(web, wants, ()), False)
            self.truth(is_charter(web, wants, [()]), False)
        self.same(self.told(Web(0), ()), [((), Web(0))])

    def test_most(self):
        web = complete(5, 2)
        wants = (Want(2, 3, 4, 5),) * 3 + (Want(3),) * 2
        self.same(len(self.told(web, wants)), 32)
        self.fails(TooMany, {"limit": 63}, charter, web, wants, most=63)
        more = (Want(2, 3, 4, 5),) * 3 + (Want(2, 4), Want(3))
        self.fails(TooMany, {"limit": 64}, charter, web, more)
        self.same(len(self.told(web, more, most=128)), 64)
        self.same(len(self.told(web, (Want(4),) * 5, most=1)), 1)
        self.fails(TooMany, {"limit": 1}, charter, web, (Want(4),) * 4 + (Want(2, 4),), most=1)

    def test_order_of_errors(self):
        for size in (6, 60):
            for want in (Want(100), FOUR, Want(1)):
                self.fails(TooMany, {"limit": 5}, charter, complete(size, 1), (want,) * size)
                self.fails(TooMany, {"limit": 5}, charter, complete(size, 1), (want,) * size, most=1)
                self.fails(TooMany, {"limit": 5}, is_charter, complete(size, 1), (want,) * size, [])
                self.fails(TooMany, {"limit": 5}, is_charter, complete(size, 1), (want,) * size, None)
        # TooMany(most) ahead of Barred.
        self.fails(TooMany, {"limit": 64}, charter, Web(5), (FOUR,) * 5)
        self.fails(TooMany, {"limit": 1023}, charter, Web(5), (FOUR,) * 5, most=1023)
        self.fails(Barred, {"row": (0, 0, 0, 0, 4)}, charter, Web(5), (FOUR,) * 5, most=1024)

    def test_agrees_with_every(self):
        rng = seeded(102)
        for _ in range(30):
            size = rng.randint(1, 4)
            web = complete(size, 4)
            wants = tuple(Want.between(low, low + rng.randint(0, 4)) for low in [rng.randint(1, 4) for _ in range(size)])
            try:
                charter(web, wants, most=1024)
                self.assertIn(every(web, wants)[0], ("every", "none"))
            except Barred as error:
                self.same(every(web, wants)[0], "barred")
                self.assertLess(plain_excess(web, error.row, error.lots), 0)


class IsCharter(Case):
    def setUp(self):
        self.web = complete(3, 2)
        self.wants = (Want(1, 2), Want(1, 2), Want(2))
        self.good = [((1, 1, 2), Web(3, [(0, 2, 1), (1, 2, 1)])), ((2, 2, 2), complete(3, 1))]

    def is_one(self, thing, web=None, wants=None):
        return is_charter(web or self.web, wants or self.wants, thing)

    def test_good(self):
        self.truth(self.is_one(self.good), True)
        self.truth(self.is_one(charter(self.web, self.wants)), True)
        # Any choice with the row is right.
        more = complete(3, 4)
        other = [((4, 4, 4), Web(3, [(0, 1, 2), (0, 2, 2), (1, 2, 2)]))]
        self.truth(is_charter(more, (Want(4),) * 3, other), True)
        two = ring(4, 1)
        for kept in ([(0, 1, 1), (2, 3, 1)], [(0, 3, 1), (1, 2, 1)]):
            self.truth(is_charter(two, (Want(1),) * 4, [((1, 1, 1, 1), Web(4, kept))]), True)

    def test_other_things(self):
        row, kept = self.good[0]
        for thing in NO_INTEGERS + (0, tuple(self.good), self.good[:1], self.good[1:], self.good[::-1], self.good * 2,
                                    self.good + self.good[:1], Agreeing(), [Agreeing(), Agreeing()], dict(self.good[:0]),
                                    [list(entry) for entry in self.good], iter(self.good), [self.good]):
            self.truth(self.is_one(thing), False, repr(thing))
        for value in NO_INTEGERS + (0, (), (row,), (row, kept, kept), [row, kept], (kept, row), Agreeing(),
                                    (row, kept.ties), (row, None), (Agreeing(), kept), (row, Agreeing())):
            self.truth(self.is_one([value, self.good[1]]), False, repr(value))
            self.truth(self.is_one([self.good[0], value]), False, repr(value))
        self.truth(self.is_one(["x"] * 8000), False)
        self.truth(self.is_one(self.good * 4000), False)

    def test_wrong_rows(self):
        _, kept = self.good[0]
        for row in ((1, 1, 2, 0), (1, 1), (1, 1, 1), (2, 1, 1), [1, 1, 2], (True, 1, 2), (1, True, 2), (True, True, 2),
                    ("1", 1, 2), (1, 1, "2"), (2, 2, 2), None, "112"):
            self.truth(self.is_one([(row, kept), self.good[1]]), False, repr(row))
        nothing = [((0, 1, 1), Web(3, [(1, 2, 1)]))]
        self.truth(is_charter(self.web, (Want(0), Want(1), Want(1)), nothing), True)
        self.truth(is_charter(self.web, (Want(0), Want(1), Want(1)), [((False, 1, 1), nothing[0][1])]), False)

    def test_wrong_choices(self):
        row, _ = self.good[0]
        for kept in (Web(3), complete(3, 1), Web(3, [(0, 1, 1), (1, 2, 1)]), Web(4, [(0, 2, 1), (1, 2, 1)]), None, True,
                     [(0, 2, 1), (1, 2, 1)], Web(3, [(0, 2, 3), (1, 2, 1)])):
            self.truth(self.is_one([(row, kept), self.good[1]]), False, repr(kept))
        # A web with the row that is no choice of this one.
        wide = Web(3, [(0, 1, 3)])
        self.truth(is_charter(wide, (Want(3), Want(3), Want(0)), [((3, 3, 0), wide)]), True)
        self.truth(is_charter(Web(3, [(0, 1, 2)]), (Want(3), Want(3), Want(0)), [((3, 3, 0), wide)]), False)

    def test_most_does_not_limit(self):
        web, wants = complete(5, 2), (Want(2, 3, 4, 5),) * 5
        rows = plain_corner_rows(wants, 0)
        found = charter(web, wants, most=1024)
        self.same([row for row, _ in found], rows)
        self.truth(all(is_choice(web, row, choice) for row, choice in found), True)
        self.truth(is_charter(web, wants, found), True)
        self.truth(is_charter(web, wants, found[:-1]), False)
        self.truth(is_charter(web, wants, found + found[-1:]), False)
        self.truth(is_charter(web, wants, found[:100] + [found[101], found[100]] + found[102:]), False)
        self.truth(is_charter(web, wants, found[:511] + [(found[511][0], Web(5))]), False)

    def test_does_not_change_its_arguments(self):
        before = [entry for entry in self.good]
        self.truth(self.is_one(self.good), True)
        self.truth(self.good == before, True)
        first, second = charter(self.web, self.wants), charter(self.web, self.wants)
        self.truth(first == second, True)
        first.clear()
        self.truth(charter(self.web, self.wants) == second, True)
        rows = corner_rows(self.wants, 0)
        rows.clear()
        self.same(corner_rows(self.wants, 0), [(1, 1, 2), (2, 2, 2)])
        self.truth(is_charter(line(1, 0), (Want(0),), [((0,), Web(1))]), True)


if __name__ == "__main__":
    unittest.main()
