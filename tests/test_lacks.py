"""[2], [5], [9], [10], [11], [12], [41]: lack."""

import inspect
import itertools
import unittest

from contentties.errors import TooMany
from contentties.lacks import lack
from contentties.lots import is_lots, parity
from contentties.shapes import beside, complete, moved, renamed
from contentties.webs import Web
from tests.helpers import Case, granted, plain_excess, plain_lack, plain_lots, random_row, random_web, seeded

MOST = 10 ** 9
WEB = Web(3, [(0, 1, 2), (2, 1, 1)])


class Lacks(Case):
    def told(self, web, row, expected=None):
        """The lack is as expected, and the told lots give it; the lack is returned."""
        result = lack(web, row)
        self.assertIs(type(result), tuple)
        amount, lots = result
        self.assertIs(type(amount), int)
        self.truth(is_lots(web, lots), True)
        self.same(-plain_excess(web, row, lots), amount)
        self.same(amount % 2, parity(row))
        if expected is not None:
            self.same(amount, expected)
        return amount

    def test_interface(self):
        self.assertEqual(list(inspect.signature(lack).parameters), ["web", "row"])
        self.assertEqual(lack.__module__, "contentties.lacks")

    def test_example(self):
        self.told(WEB, (2, 1, 1), 2)

    def test_all_rows_of_small_webs(self):
        for numbers in itertools.product(range(3), repeat=3):
            web = Web(3, [(u, v, n) for (u, v), n in zip(((0, 1), (0, 2), (1, 2)), numbers)])
            rows = granted(web)
            for row in itertools.product(*[range(-1, degree + 2) for degree in web.degrees]):
                self.told(web, row, plain_lack(rows, row))

    def test_rows_of_larger_webs(self):
        rng = seeded(50)
        for size, most, times in ((2, 9, 10), (4, 2, 12), (5, 1, 12)):
            for _ in range(times):
                web = random_web(rng, size, most, 0.3)
                rows = granted(web)
                for _ in range(12):
                    row = random_row(rng, web)
                    self.told(web, row, plain_lack(rows, row))

    def test_without_places_and_without_ties(self):
        self.told(Web(0), (), 0)
        for x in (0, 1, -1, 10 ** 12, -10 ** 12):
            self.told(Web(1), (x,), abs(x))
            self.told(Web(5), (x,) * 5, 5 * abs(x))

    def test_two_places_with_large_bundles(self):
        rng = seeded(51)
        for _ in range(200):
            most = rng.choice((0, 1, 2, MOST - 1, MOST))
            row = tuple(rng.choice((rng.randint(-5, 5), most + rng.randint(-3, 3), rng.randint(0, MOST),
                                    rng.randint(-10 ** 12, 10 ** 12))) for _ in range(2))
            kept = [min(max(x, 0), most) for x in row]
            best = min(sum(abs(x - k) for x in row) for k in kept)
            self.told(Web(2, [(0, 1, most)]), row, best)

    def test_large_bundles_by_all_lots(self):
        rng = seeded(52)
        for size in (3, 4, 5):
            for _ in range(6):
                web = random_web(rng, size, MOST, 0.2)
                row = tuple(rng.choice((rng.randint(0, degree), rng.randint(-10 ** 12, 10 ** 12)))
                            for degree in web.degrees)
                most = max(-plain_excess(web, row, lots) for lots in plain_lots(size))
                self.told(web, row, most)

    def test_many_times_a_small_web(self):
        # Twice an integer makes no odd pieces, so that all grows alike.
        rng = seeded(53)
        times = MOST // 4
        for _ in range(12):
            web = random_web(rng, rng.choice((3, 4)), 2, 0.4)
            row = random_row(rng, web)
            small = plain_lack(granted(2 * web), tuple(2 * x for x in row)) if web.total <= 6 else None
            twice = self.told(2 * web, tuple(2 * x for x in row), small)
            self.told(2 * times * web, tuple(2 * times * x for x in row), times * twice)

    def test_granted_rows_of_large_bundles(self):
        rng = seeded(54)
        for _ in range(20):
            web = random_web(rng, 5, MOST, 0.2)
            kept = Web(5, [(u, v, rng.randint(0, number)) for u, v, number in web.ties])
            self.told(web, kept.degrees, 0)
            self.told(web, (kept.degrees[0] + 1, *kept.degrees[1:]), 1)
            self.told(web, web.degrees, 0)
            self.told(web, tuple(d + 10 ** 12 for d in web.degrees), 5 * 10 ** 12)
            self.told(web, (-10 ** 12,) * 5, 5 * 10 ** 12)

    def test_too_many(self):
        self.fails(TooMany, {"limit": 5}, lack, Web(6), (0,) * 6)
        self.fails(TooMany, {"limit": 5}, lack, complete(60, 1), (0,) * 60)
        self.told(complete(5, 1), (4,) * 5, 0)

    def test_mirrors(self):
        rng = seeded(55)
        for _ in range(20):
            web = random_web(rng, rng.randint(0, 5), 5)
            row = random_row(rng, web)
            mirrored = tuple(d - x for d, x in zip(web.degrees, row))
            self.same(lack(web, row)[0], lack(web, mirrored)[0])

    def test_side_by_side(self):
        rng = seeded(56)
        for _ in range(20):
            cut = rng.randint(0, 5)
            one, other = random_web(rng, cut, 4), random_web(rng, 5 - cut, 4)
            first, second = random_row(rng, one), random_row(rng, other)
            self.told(beside(one, other), first + second, lack(one, first)[0] + lack(other, second)[0])

    def test_more_ties(self):
        rng = seeded(57)
        for _ in range(20):
            web, more = random_web(rng, 4, 3), random_web(rng, 4, 3)
            row = random_row(rng, web)
            self.assertLessEqual(lack(web + more, row)[0], lack(web, row)[0])

    def test_other_names(self):
        rng = seeded(58)
        for _ in range(20):
            web = random_web(rng, 5, 4)
            row = random_row(rng, web)
            order = tuple(rng.sample(range(5), 5))
            self.told(renamed(web, order), moved(row, order), lack(web, row)[0])

    def test_returns_the_same_each_time(self):
        self.same(lack(WEB, (2, 1, 1)), lack(WEB, (2, 1, 1)))


if __name__ == "__main__":
    unittest.main()
