"""[5], [9], [10], [11], [12], [43]: grants, and the example behind [43]."""

import inspect
import itertools
import unittest

from contentties import grants as grants_file
from contentties.errors import Barred, TooMany
from contentties.grants import closest, grant
from contentties.lacks import lack
from contentties.lots import excess, is_choice, is_lots, odd_pieces
from contentties.shapes import beside, complete, line, moved, renamed, ring
from contentties.spans import span
from contentties.webs import Web
from tests.helpers import (
    Case, granted, kept_web, pairs_of, plain_distance, plain_excess, plain_lack, random_row, random_web, same, seeded,
)

MOST = 10 ** 9
WEB = Web(3, [(0, 1, 2), (2, 1, 1)])


class Interface(Case):
    def test_names_and_arguments(self):
        for name in ("grant", "closest"):
            call = getattr(grants_file, name)
            self.assertEqual(list(inspect.signature(call).parameters), ["web", "row"])
            self.assertEqual(call.__module__, "contentties.grants")

    def test_example(self):
        self.same([excess(WEB, (2, 1, 1), ((1,), (0,))), odd_pieces(WEB, (2, 1, 1), ((1,), (0,))),
                   lack(WEB, (2, 1, 1))[0]], [-2, [(2,)], 2])
        self.same([grant(WEB, (1, 2, 1)).ties, str(span(WEB, (1, 2, 1), 0, 1)),
                   str(span(Web(2, [(0, 1, 7)]), (4, 4), 1, 0))], [((0, 1, 1), (1, 2, 1)), "1", "4"])


class Grants(Case):
    def kept(self, web, row):
        """The row is granted by a choice with it."""
        kept = grant(web, row)
        self.assertIs(type(kept), Web)
        self.truth(is_choice(web, row, kept), True, f"{web.ties} {row} {kept.ties}")
        self.same(kept.degrees, row)
        for pair in pairs_of(web.size):
            self.assertLessEqual(kept[pair], web[pair])
        return kept

    def barred(self, web, row):
        """The row is not granted, and the told lots bar it."""
        error = self.fails(Barred, {"row": row}, grant, web, row)
        self.assertIs(error.row, row)
        self.truth(is_lots(web, error.lots), True)
        self.assertLess(plain_excess(web, row, error.lots), 0)

    def told(self, web, row, is_granted):
        if is_granted:
            self.kept(web, row)
        else:
            self.barred(web, row)

    def test_all_rows_of_small_webs(self):
        for numbers in itertools.combinations_with_replacement(range(3), 3):
            web = Web(3, [(u, v, n) for (u, v), n in zip(pairs_of(3), numbers)])
            rows = granted(web)
            for row in itertools.product(*[range(-1, degree + 2) for degree in web.degrees]):
                self.told(web, row, row in rows)

    def test_rows_of_larger_webs(self):
        rng = seeded(70)
        for size, most, times in ((2, 9, 6), (4, 1, 4), (4, 2, 4), (5, 1, 4)):
            for _ in range(times):
                web = random_web(rng, size, most, 0.2)
                rows = granted(web)
                for row in rng.sample(sorted(rows), min(len(rows), 12)):
                    self.kept(web, row)
                for _ in range(6):
                    row = random_row(rng, web, 1)
                    self.told(web, row, row in rows)

    def test_webs_without_places_and_of_one(self):
        self.same(self.kept(Web(0), ()).size, 0)
        self.kept(Web(1), (0,))
        for x in (1, 2, -1, -2, 10 ** 12, -10 ** 12):
            self.barred(Web(1), (x,))
            self.barred(Web(5), (0, 0, 0, 0, x))
        self.kept(Web(5), (0,) * 5)

    def test_bundles_with_one_number_of_a_parity(self):
        # The only choice with this row keeps an odd number of each bundle.
        self.same(self.kept(complete(3, 5), (6, 6, 6)).ties, ((0, 1, 3), (0, 2, 3), (1, 2, 3)))
        self.same(self.kept(line(5, 3), (3, 4, 2, 4, 3)).ties, ((0, 1, 3), (1, 2, 1), (2, 3, 1), (3, 4, 3)))
        self.kept(ring(5, 1), (1, 1, 2, 1, 1))
        self.barred(ring(5, 1), (1, 1, 1, 1, 1))
        self.barred(ring(4, 1), (1, 0, 1, 0))

    def test_large_bundles(self):
        rng = seeded(71)
        for size in (2, 3, 4, 5):
            for _ in range(5):
                web = random_web(rng, size, MOST, 0.2)
                row = kept_web(rng, web).degrees
                self.kept(web, row)
                self.kept(web, web.degrees)
                self.kept(web, (0,) * size)
                self.barred(web, (row[0] + 1, *row[1:]))
                self.barred(web, (web.degrees[0] + 2, *row[1:]))
                self.barred(web, (-2, *row[1:]))
        full = complete(5, MOST)
        self.kept(full, (4 * MOST,) * 5)
        self.kept(full, (4 * MOST - 2,) + (4 * MOST,) * 3 + (4 * MOST - 2,))
        self.barred(full, (10 ** 12,) * 5)
        self.barred(full, (-10 ** 12,) * 5)

    def test_mirrors(self):
        rng = seeded(72)
        for _ in range(15):
            web = random_web(rng, rng.randint(0, 5), 4)
            row = random_row(rng, web, 0)
            self.told(web, tuple(d - x for d, x in zip(web.degrees, row)), lack(web, row)[0] == 0)

    def test_sums_and_more_ties(self):
        rng = seeded(73)
        for _ in range(10):
            one, other = random_web(rng, 4, 5), random_web(rng, 4, 5)
            left, right = kept_web(rng, one).degrees, kept_web(rng, other).degrees
            self.kept(one + other, tuple(a + b for a, b in zip(left, right)))
            self.kept(one + other, left)
            self.kept(7 * one, tuple(7 * x for x in left))
        one, other = complete(3, 2), line(2, 3)
        self.kept(beside(one, other), (2, 2, 4, 3, 3))
        self.barred(beside(one, other), (2, 2, 3, 3, 2))

    def test_other_names(self):
        rng = seeded(74)
        for _ in range(15):
            web = random_web(rng, 5, 3)
            row = random_row(rng, web, 0)
            order = tuple(rng.sample(range(5), 5))
            self.told(renamed(web, order), moved(row, order), lack(web, row)[0] == 0)

    def test_too_many(self):
        for size in (6, 7, 60):
            # Also for rows that would be barred.
            for row in ((0,) * size, (1,) * size, (-1,) + (0,) * (size - 1)):
                self.fails(TooMany, {"limit": 5}, grant, complete(size, 1), row)
        self.kept(complete(5, 1), (2, 2, 2, 2, 2))

    def test_returns_equal_things_and_keeps_the_arguments(self):
        row = (1, 2, 1)
        self.same(grant(WEB, row), grant(WEB, row))
        self.same((WEB.ties, row), (((0, 1, 2), (1, 2, 1)), (1, 2, 1)))


class Closest(Case):
    def told(self, web, row, amount):
        kept = closest(web, row)
        self.assertIs(type(kept), Web)
        self.truth(kept.within(web), True)
        self.same(plain_distance(kept.degrees, row), amount)

    def test_all_rows_of_small_webs(self):
        for numbers in itertools.combinations_with_replacement(range(3), 3):
            web = Web(3, [(u, v, n) for (u, v), n in zip(pairs_of(3), numbers)])
            rows = granted(web)
            for row in itertools.product(*[range(-1, degree + 2) for degree in web.degrees]):
                self.told(web, row, plain_lack(rows, row))

    def test_rows_of_larger_webs(self):
        rng = seeded(75)
        for size, most, times in ((2, 9, 6), (4, 1, 6), (4, 2, 4), (5, 1, 4)):
            for _ in range(times):
                web = random_web(rng, size, most, 0.4)
                rows = granted(web)
                for _ in range(10):
                    row = random_row(rng, web, 4)
                    self.told(web, row, plain_lack(rows, row))

    def test_webs_without_places_and_of_one(self):
        self.told(Web(0), (), 0)
        for x in (0, 1, -1, 10 ** 12, -10 ** 12):
            self.told(Web(1), (x,), abs(x))
            self.told(Web(5), (x, 0, x, 1, -x), 3 * abs(x) + 1)

    def test_large_bundles(self):
        rng = seeded(76)
        for size in (2, 3, 4, 5):
            for _ in range(6):
                web = random_web(rng, size, rng.choice((MOST, 7)), 0.3)
                row = tuple(rng.choice((rng.randint(0, degree), rng.randint(-5, degree + 5),
                                        rng.randint(-10 ** 12, 10 ** 12))) for degree in web.degrees)
                self.told(web, row, lack(web, row)[0])
        full = complete(5, MOST)
        self.told(full, (10 ** 12,) * 5, 5 * (10 ** 12 - 4 * MOST))
        self.told(full, (-10 ** 12,) * 5, 5 * 10 ** 12)
        self.told(full, (10 ** 12, -10 ** 12, 10 ** 12, -10 ** 12, 1), 4 * 10 ** 12 - 2 * MOST - 1)

    def test_granted_rows(self):
        rng = seeded(77)
        for _ in range(10):
            web = random_web(rng, 5, MOST)
            row = kept_web(rng, web).degrees
            self.told(web, row, 0)
            self.told(web, (*row[:4], row[4] + 1), 1)

    def test_too_many(self):
        for size in (6, 60):
            self.fails(TooMany, {"limit": 5}, closest, complete(size, 1), (1,) * size)
        self.told(complete(5, 1), (5, 5, 5, 5, 5), 5)

    def test_returns_equal_things(self):
        self.truth(same(closest(WEB, (5, 0, 5)), closest(WEB, (5, 0, 5))), True)


if __name__ == "__main__":
    unittest.main()
