"""[2], [8], [12], [42]: span."""

import inspect
import itertools
import unittest

from contentties.errors import TooMany
from contentties.shapes import beside, complete, line, moved, renamed
from contentties.spans import span
from contentties.wants import Want
from contentties.webs import Web
from tests.helpers import (
    Case, all_choices, members, pairs_of, plain_excess, plain_lots, random_row, random_web, seeded,
)

MOST = 10 ** 9
WEB = Web(3, [(0, 1, 2), (2, 1, 1)])


def plain_spans(web):
    """For each granted row and each pair, the set of the numbers that choices with the row keep."""
    found = {}
    for kept in all_choices(web):
        for pair in pairs_of(web.size):
            found.setdefault((kept.degrees, pair), set()).add(kept[pair])
    return found


def is_kept(web, row, u, v, number):
    """Whether some choice with the row keeps this number, by the lots of the rest [5]."""
    if not 0 <= number <= web[u, v]:
        return False
    rest = tuple(x - number if place in (u, v) else x for place, x in enumerate(row))
    without = Web(web.size, [tie for tie in web.ties if tie[:2] != (min(u, v), max(u, v))])
    return all(plain_excess(without, rest, lots) >= 0 for lots in plain_lots(web.size))


class Spans(Case):
    def told(self, web, row, u, v, expected):
        want = span(web, row, u, v)
        self.assertIs(type(want), Want)
        self.assertEqual(want, expected, f"{web.ties} {row} {u} {v}: {want}")
        self.assertLessEqual(max(len(want.evens), len(want.odds)), 1)

    def test_interface(self):
        self.assertEqual(list(inspect.signature(span).parameters), ["web", "row", "u", "v"])
        self.assertEqual(span.__module__, "contentties.spans")

    def test_example(self):
        self.same([str(span(WEB, (1, 2, 1), 0, 1)), str(span(Web(2, [(0, 1, 7)]), (4, 4), 1, 0))], ["1", "4"])

    def test_all_rows_of_small_webs(self):
        for numbers in itertools.product(range(3), repeat=3):
            web = Web(3, [(u, v, n) for (u, v), n in zip(((0, 1), (0, 2), (1, 2)), numbers)])
            found = plain_spans(web)
            for row in itertools.product(*[range(-1, degree + 2) for degree in web.degrees]):
                for u, v in pairs_of(3):
                    self.told(web, row, u, v, Want(*found.get((row, (u, v)), ())))

    def test_rows_of_larger_webs(self):
        rng = seeded(60)
        for size, most, times in ((4, 2, 8), (4, 3, 4), (5, 1, 4)):
            for _ in range(times):
                web = random_web(rng, size, most, 0.2)
                found = plain_spans(web)
                rows = sorted({row for row, _ in found})
                some = [rng.choice(rows) for _ in range(6)] + [random_row(rng, web) for _ in range(2)]
                for row in some:
                    u, v = rng.sample(range(size), 2)
                    pair = (min(u, v), max(u, v))
                    self.told(web, row, u, v, Want(*found.get((row, pair), ())))

    def test_both_parities_and_gaps_between_them(self):
        # A bundle of one parity alone, and of both with other ends.
        found = set()
        rng = seeded(61)
        for _ in range(40):
            web = random_web(rng, 4, 5, 0.2)
            kept = Web(4, [(u, v, rng.randint(0, number)) for u, v, number in web.ties])
            want = span(web, kept.degrees, 0, 1)
            found.add((bool(want.evens), bool(want.odds)))
            self.truth(kept[0, 1] in want, True)
            self.same(members(want), [x for x in range(web[0, 1] + 1) if is_kept(web, kept.degrees, 0, 1, x)])
        self.assertEqual(found, {(True, True), (True, False), (False, True)})

    def test_order_of_the_two_places(self):
        rng = seeded(62)
        for _ in range(20):
            web = random_web(rng, 4, 4, 0.2)
            kept = Web(4, [(u, v, rng.randint(0, number)) for u, v, number in web.ties])
            u, v = rng.sample(range(4), 2)
            self.assertEqual(span(web, kept.degrees, u, v), span(web, kept.degrees, v, u))

    def test_rows_that_are_not_granted(self):
        for row in ((1, 1, 1), (-1, 1, 0), (2, 1, 1), (3, 3, 0), (0, 0, 10 ** 12), (-10 ** 12, -10 ** 12, 0),
                    (10 ** 12, 10 ** 12, 0), (-1, -1, 0)):
            for u, v in pairs_of(3):
                self.told(WEB, row, u, v, Want())

    def test_barred_by_places_that_the_bundle_does_not_touch(self):
        for number in (2, 10, MOST):
            wide = beside(complete(4, number), Web(1))
            row = (number,) * 4
            self.told(wide, (*row, 0), 0, 1, Want.between(0, number))
            self.told(wide, (*row, 1), 0, 1, Want())
            self.told(wide, (*row, -2), 0, 1, Want())
            self.told(wide.changed(0, 4, 1), (*row, 2), 0, 1, Want())
            self.told(wide.changed(2, 4, 1), (*row, 2), 0, 1, Want())
            self.told(wide.changed(0, 4, MOST), (*row, 3 * number + 1), 0, 1, Want())
            self.told(wide, (number + 1, *row), 0, 1, Want())
            self.told(wide.changed(0, 4, 1), (number + 1, *row[1:], 1), 0, 1, Want.between(0, number))

    def test_rows_beyond_the_web(self):
        rng = seeded(66)
        for _ in range(40):
            web = random_web(rng, 4, 6, 0.2)
            row = random_row(rng, web, 0)
            u, v = rng.sample(range(4), 2)
            expected = [x for x in range(web[u, v] + 1) if is_kept(web, row, u, v, x)]
            self.same(members(span(web, row, u, v)), expected)

    def test_bundles_without_ties(self):
        self.told(WEB, (1, 2, 1), 0, 2, Want(0))
        self.told(WEB, (1, 1, 2), 0, 2, Want())
        self.told(Web(2), (0, 0), 0, 1, Want(0))
        self.told(Web(2), (1, 1), 0, 1, Want())

    def test_large_bundles(self):
        big = complete(3, MOST)
        self.told(big, (MOST, MOST, MOST), 0, 1, Want.stepped(MOST // 2, MOST // 2))
        self.told(Web(2, [(0, 1, MOST)]), (MOST, MOST), 0, 1, Want(MOST))
        self.told(Web(2, [(0, 1, MOST)]), (MOST + 1, MOST + 1), 0, 1, Want())
        self.told(complete(4, MOST), (MOST,) * 4, 2, 1, Want.between(0, MOST))
        self.told(complete(4, MOST), (3 * MOST,) * 4, 2, 1, Want(MOST))
        self.told(line(5, MOST), (5, 7, 4, 3, 1), 2, 3, Want(2))
        self.told(line(5, MOST), (5, 7, 4, 3, 2), 2, 3, Want())
        self.told(complete(4, MOST), (10, 20, 30, 40), 0, 1, Want.between(0, 10))

    def test_ends_for_large_bundles(self):
        rng = seeded(63)
        for _ in range(12):
            size = rng.choice((3, 4, 5))
            web = random_web(rng, size, MOST, 0.2)
            kept = Web(size, [(u, v, rng.randint(0, number)) for u, v, number in web.ties])
            u, v = rng.sample(range(size), 2)
            want = span(web, kept.degrees, u, v)
            self.truth(kept[u, v] in want, True)
            self.assertLessEqual(max(len(want.evens), len(want.odds)), 1)
            for low, high in want.evens + want.odds:
                for number, holds in ((low - 2, False), (low, True), (high, True), (high + 2, False)):
                    self.truth(is_kept(web, kept.degrees, u, v, number), holds)
            for parity in (0, 1):
                if want.least(parity) is None:
                    for number in range(parity, 10, 2):
                        self.truth(is_kept(web, kept.degrees, u, v, number), False)

    def test_odd_ends(self):
        # With a triangle beside it, the parity of a bundle is free only as far as the triangle reaches.
        rng = seeded(64)
        for _ in range(30):
            web = Web(5, [(0, 1, MOST), (1, 2, 1), (0, 2, 1), (2, 3, rng.randint(0, 2)), (3, 4, MOST), (2, 4, 1)])
            kept = Web(5, [(u, v, rng.randint(max(0, n - 2), n)) for u, v, n in web.ties])
            row = kept.degrees
            expected = [x for x in range(MOST - 8, MOST + 1) if is_kept(web, row, 0, 1, x)]
            self.same(members(span(web, row, 0, 1)), expected)

    def test_too_many(self):
        self.fails(TooMany, {"limit": 5}, span, Web(6), (0,) * 6, 0, 1)
        self.fails(TooMany, {"limit": 5}, span, complete(60, 1), (0,) * 60, 58, 59)
        self.told(complete(5, 1), (4,) * 5, 3, 4, Want(1))

    def test_other_names(self):
        rng = seeded(65)
        for _ in range(20):
            web = random_web(rng, 5, 4)
            kept = Web(5, [(u, v, rng.randint(0, number)) for u, v, number in web.ties])
            order = tuple(rng.sample(range(5), 5))
            self.assertEqual(span(renamed(web, order), moved(kept.degrees, order), order[1], order[3]),
                             span(web, kept.degrees, 1, 3))


if __name__ == "__main__":
    unittest.main()
