"""[8], [9], [10], [11], [12], [60], [61], [62]: spares."""

import inspect
import itertools
import unittest

from contentties import spares as spares_file
from contentties.errors import Barred, TooMany
from contentties.lots import is_lots, is_row
from contentties.shapes import beside, complete, line, moved, renamed
from contentties.spares import lean, nearest_barred, settled, spare
from contentties.wants import Want
from contentties.webs import Web
from contentties.worst import every
from tests.helpers import (
    Case, granted, kept_web, pairs_of, plain_distance, plain_excess, plain_lots, plain_pieces, random_row, random_wants,
    random_web, rows_from, same, seeded,
)

MOST = 10 ** 9
FAR = 10 ** 12
THREE, ONE, GAP = Web(2, [(0, 1, 3)]), Web(2, [(0, 1, 1)]), Want(0, 3)


def all_granted(web, wants):
    rows = granted(web)
    return all(row in rows for row in rows_from(wants, 0))


def plain_spare(web, wants, u, v):
    """The answer of spare, by all choices; as many ties as a place wants at most are as good as any number."""
    for number in range(max(0, *[want.high for want in wants]) + 2):
        if all_granted(web.changed(u, v, number), wants):
            return number
    return None


class Interface(Case):
    def test_names_and_arguments(self):
        for name, arguments in {"spare": ["web", "wants", "u", "v"], "lean": ["web", "wants"],
                                "settled": ["web", "wants", "u", "v", "number"],
                                "nearest_barred": ["web", "row"]}.items():
            call = getattr(spares_file, name)
            self.assertEqual(list(inspect.signature(call).parameters), arguments)
            self.assertEqual(call.__module__, "contentties.spares")

    def test_example(self):
        self.same([spare(Web(2), (GAP, GAP), 0, 1), spare(THREE, (GAP, Want(1)), 0, 1),
                   lean(Web(2, [(0, 1, 5)]), (GAP, GAP)) == THREE], [3, None, True])
        self.same(settled(ONE, (Want(0, 1), Want(1)), 0, 1, 1) == (Web(2), (Want(-1, 0), Want(0))), True)
        self.same([nearest_barred(THREE, (1, 1))[0], nearest_barred(THREE, (2, 2))[0],
                   nearest_barred(Web(1), (3,))[0], nearest_barred(Web(1), (0,))[0]], [2, 2, 1, 2])


class Spare(Case):
    def test_small_webs(self):
        rng = seeded(130)
        seen = set()
        for size, most, times in ((2, 5, 40), (3, 4, 60), (4, 2, 20), (5, 1, 4)):
            for _ in range(times):
                web = random_web(rng, size, most, 0.1)
                top = {2: 4, 3: 4, 4: 2, 5: 2}[size]
                wants = tuple(Want(*[rng.randint(0, min(top, degree)) for _ in range(rng.choice((1, 1, 2)))])
                              for degree in web.degrees)
                u, v = rng.sample(range(size), 2)
                expected = plain_spare(web, wants, u, v)
                seen.add(expected)
                self.same(spare(web, wants, u, v), expected)
                self.same(spare(web.changed(u, v, rng.randint(0, 3)), wants, v, u), expected)
        self.assertTrue(seen >= {None, 0, 1, 2, 3})

    def test_a_bundle_that_connects(self):
        # One tie makes one piece of two, so that it helps though none of it is kept at the end.
        web = Web(4, [(0, 1, 1), (2, 3, 1)])
        self.same(spare(web, (Want(0, 1),) * 2 + (Want(0),) * 2, 1, 2), 0)
        self.same(spare(web, (Want(1), Want(0), Want(0), Want(1)), 1, 2), None)
        self.same(spare(web.changed(0, 1, 2).changed(2, 3, 2), (Want(1), Want(2), Want(2), Want(1)), 1, 2), 1)
        chain = line(4, 1)
        self.same(spare(chain, (Want(0, 1),) * 4, 0, 3), None)
        full = complete(4, 1)
        for u, v in pairs_of(4):
            self.same(spare(full, (Want(1),) * 4, u, v), 0)
            self.same(spare(full, (Want(0, 1),) * 4, u, v), 1)

    def test_no_even_row(self):
        for web, wants in ((THREE, (Want(1), Want(2))), (Web(2), (Want(100), Want(-3))),
                           (complete(5, MOST), (Want(1),) * 5)):
            self.same(spare(web, wants, 0, 1), 0)
            self.same(lean(web, wants), Web(web.size))

    def test_none(self):
        self.same(spare(complete(5, MOST), (Want(-1, 0), Want(1), Want(0), Want(0), Want(0)), 0, 1), None)
        self.same(spare(Web(2), (Want(0) + FAR, Want(0) + FAR), 0, 1), None)
        self.same(spare(complete(3, 1), (Want(1), Want(1), Want(4)), 0, 1), None)

    def test_the_greatest_number_of_ties(self):
        for number in (MOST - 1, MOST):
            self.same(spare(Web(2), (Want(number),) * 2, 0, 1), number)
            self.same(spare(Web(3, [(0, 1, 5)]), (Want(0), Want(number), Want(number)), 2, 1), number)
        self.same(spare(Web(2), (Want(MOST) + 1,) * 2, 0, 1), None)
        self.same(spare(complete(3, MOST), (Want(MOST) + MOST,) * 3, 0, 1), MOST)
        self.same(spare(complete(3, MOST), (Want(MOST) + MOST - 2, Want(MOST) + MOST, Want(MOST) + MOST), 0, 1), None)
        self.same(spare(complete(3, MOST), (Want(MOST - 1) + MOST,) * 2 + (Want(MOST) + MOST,), 0, 1), MOST - 1)

    def test_large_bundles_and_wide_wants(self):
        rng = seeded(131)
        seen = set()
        for size in (2, 3, 4, 5):
            for _ in range(8):
                web = random_web(rng, size, MOST, 0.1)
                wants = tuple(Want.stepped(0, rng.choice((0, 6, MOST // 50))) + x for x in kept_web(rng, web).degrees)
                u, v = rng.sample(range(size), 2)
                number = spare(web, wants, u, v)
                seen.add(number is None or number > 1)
                if number is None:
                    self.same(every(web.changed(u, v, MOST), wants)[0], "barred")
                else:
                    for more in (number, number + 1, number + 2, MOST):
                        if more <= MOST:
                            self.same(every(web.changed(u, v, more), wants)[0], "every")
                    for less in (0, number // 2, number - 2, number - 1):
                        if 0 <= less < number:
                            self.same(every(web.changed(u, v, less), wants)[0], "barred")
        self.assertIn(True, seen)

    def test_odd_and_even_answers(self):
        rng = seeded(132)
        found = set()
        for _ in range(60):
            web = random_web(rng, 3, 5, 0)
            kept = kept_web(rng, web)
            wants = tuple(Want(x, x + rng.randint(0, 1)) for x in kept.degrees)
            number = spare(web, wants, 0, 2)
            found.add(number)
            if number is not None:
                answers = [every(web.changed(0, 2, n), wants)[0] for n in range(number + 4)]
                self.same(answers, ["barred"] * number + ["every"] * 4)
        self.assertTrue(found >= {0, 1, 2, 3, 4})

    def test_more_ties_and_fewer_integers(self):
        rng = seeded(133)
        for _ in range(20):
            web, more = random_web(rng, 4, 5, 0.1), random_web(rng, 4, 2)
            wants = tuple(Want(x, x + rng.randint(0, 1)) for x in kept_web(rng, web).degrees)
            number = spare(web, wants, 1, 3)
            if number is not None:
                self.assertLessEqual(spare(web + more, wants, 1, 3), number)
                self.assertLessEqual(spare(web, tuple(Want(want.low) for want in wants), 1, 3), number)

    def test_other_names(self):
        rng = seeded(134)
        for _ in range(20):
            web = random_web(rng, 4, 4, 0.1)
            wants = tuple(Want(x, x + rng.randint(0, 1)) for x in kept_web(rng, web).degrees)
            order = tuple(rng.sample(range(4), 4))
            self.same(spare(renamed(web, order), moved(wants, order), order[0], order[2]), spare(web, wants, 0, 2))

    def test_too_many(self):
        for size in (6, 60):
            for wants in ((Want(2),) * size, (Want(1),) * (size - 1) + (Want(2),)):
                self.fails(TooMany, {"limit": 5}, spare, complete(size, 1), wants, 0, 1)
                self.fails(TooMany, {"limit": 5}, lean, complete(size, 1), wants)
        # TooMany(5) ahead of Barred.
        self.fails(TooMany, {"limit": 5}, lean, Web(6), (Want(1),) * 6)
        self.same(spare(complete(5, 1), (Want(4),) * 5, 2, 3), 1)


class Lean(Case):
    def barred(self, web, wants):
        error = self.fails(Barred, {}, lean, web, wants)
        self.truth(is_row(web, error.row), True)
        self.same(sum(error.row) % 2, 0)
        self.assertTrue(all(item in want for item, want in zip(error.row, wants)))
        self.truth(is_lots(web, error.lots), True)
        self.assertLess(plain_excess(web, error.row, error.lots), 0)

    def by_definition(self, web, wants):
        expected = web
        for u, v in pairs_of(web.size):
            expected = expected.changed(u, v, spare(expected, wants, u, v))
        self.assertEqual(lean(web, wants), expected)
        return expected

    def test_small_webs(self):
        rng = seeded(135)
        lost = 0
        for size, most, times in ((0, 0, 1), (1, 0, 3), (2, 6, 20), (3, 4, 40), (4, 2, 12), (5, 1, 6)):
            for _ in range(times):
                web = random_web(rng, size, most, 0.1)
                wants = tuple(Want(x, x + rng.choice((0, 0, 1))) for x in kept_web(rng, web).degrees)
                if not all_granted(web, wants):
                    self.barred(web, wants)
                    lost = lost + 1
                    continue
                kept = self.by_definition(web, wants)
                self.truth(kept.within(web), True)
                self.truth(all_granted(kept, wants), True)
                for u, v, number in kept.ties:
                    self.truth(all_granted(kept.changed(u, v, number - 1), wants), False)
        self.assertGreater(lost, 5)

    def test_order_of_the_pairs(self):
        # The first pair is lowered as far as the others allow it.
        self.same(lean(complete(4, 1), (Want(1),) * 4), Web(4, [(0, 3, 1), (1, 2, 1)]))
        self.same(lean(complete(3, 4), (Want(2),) * 3), complete(3, 1))
        self.same(lean(complete(4, 2), (Want(2), Want(0), Want(0), Want(2))), Web(4, [(0, 3, 2)]))

    def test_barred(self):
        for web, wants in ((THREE, (GAP, Want(1))), (Web(1), (Want(2),)), (line(3, 2), (Want(1),) * 2 + (Want(2),)),
                           (complete(5, MOST), (Want(-2), Want(0), Want(0), Want(2), Want.between(0, MOST)))):
            self.same(every(web, wants)[0], "barred")
            self.barred(web, wants)

    def test_without_places_and_of_one(self):
        self.same(lean(Web(0), ()), Web(0))
        self.same(lean(Web(1), (Want(0),)), Web(1))
        self.same(lean(Web(1), (Want(0, 1),)), Web(1))
        self.same(lean(Web(1), (Want(1, 5),)), Web(1))

    def test_large_bundles(self):
        rng = seeded(136)
        self.same(lean(Web(2, [(0, 1, MOST)]), (Want(MOST - 4),) * 2), Web(2, [(0, 1, MOST - 4)]))
        for size in (3, 4, 5):
            for _ in range(3):
                web = complete(size, MOST)
                low = MOST // 2
                wants = tuple(Want.between(low, low + rng.choice((1, 7, low))) for _ in range(size))
                kept = self.by_definition(web, wants)
                self.same(every(kept, wants), ("every",))
                self.assertGreater(kept.total, 0)
                for u, v, number in kept.ties:
                    self.same(every(kept.changed(u, v, number - 1), wants)[0], "barred")

    def test_does_not_change_its_arguments(self):
        web, wants = Web(2, [(0, 1, 5)]), (GAP, GAP)
        self.same((lean(web, wants), lean(web, wants)), (THREE, THREE))
        self.same((web, wants), (Web(2, [(0, 1, 5)]), (Want(0, 3), Want(0, 3))))


class Settled(Case):
    def test_small_webs(self):
        rng = seeded(137)
        for _ in range(40):
            size = rng.randint(2, 5)
            web = random_web(rng, size, 5)
            wants = random_wants(rng, web)
            u, v = rng.sample(range(size), 2)
            number = rng.randint(0, web[u, v])
            found = settled(web, wants, u, v, number)
            self.assertEqual((type(found), len(found)), (tuple, 2))
            left, rest = found
            self.assertIs(type(rest), tuple)
            self.assertEqual(left, Web(size, [tie for tie in web.ties if {tie[0], tie[1]} != {u, v}]))
            self.same(rest, tuple(want - number if place in (u, v) else want for place, want in enumerate(wants)))
            self.same(settled(web, wants, v, u, number), found)

    def test_what_is_granted(self):
        # The rows of the settled web are those whose choices keep just this number.
        rng = seeded(138)
        for _ in range(15):
            web = random_web(rng, 3, 3, 0)
            number = rng.randint(0, web[0, 2])
            wants = random_wants(rng, web, 3, 0)
            left, rest = settled(web, wants, 0, 2, number)
            for row in rows_from(wants):
                moved_row = (row[0] - number, row[1], row[2] - number)
                self.truth(all(item in want for item, want in zip(moved_row, rest)), True)

    def test_large_webs(self):
        wants = (Want.between(0, MOST) + FAR,) + (Want(5),) * 58 + (Want.stepped(-MOST, MOST),)
        left, rest = settled(complete(60, MOST), wants, 0, 59, MOST)
        self.same((left[0, 59], left.degrees), (0, (58 * MOST,) + (59 * MOST,) * 58 + (58 * MOST,)))
        self.same(rest, (Want.between(-MOST, 0) + FAR,) + (Want(5),) * 58 + (Want.stepped(-MOST, MOST) - MOST,))
        self.same(settled(Web(6), (Want(1),) * 6, 5, 2, 0), (Web(6), (Want(1),) * 6))


class NearestBarred(Case):
    def told(self, web, row):
        """The other row is even, at the told distance, and barred by the lots; the distance is returned."""
        found = nearest_barred(web, row)
        self.assertEqual((type(found), len(found)), (tuple, 3))
        amount, other, lots = found
        self.truth(is_row(web, other), True)
        self.same(sum(other) % 2, 0)
        self.same(plain_distance(row, other), amount)
        self.truth(is_lots(web, lots), True)
        self.assertLess(plain_excess(web, other, lots), 0)
        return amount

    def test_small_webs(self):
        rng = seeded(139)
        seen = set()
        for size, most, times in ((1, 0, 6), (2, 5, 40), (3, 3, 40), (4, 2, 12)):
            for _ in range(times):
                web = random_web(rng, size, most, 0.2)
                rows = granted(web)
                half = tuple(degree // 2 for degree in web.degrees)
                row = rng.choice((rng.choice(sorted(rows)), random_row(rng, web, 1), half))
                row = tuple(item + rng.choice((0, 0, 1)) for item in row)
                amount = self.told(web, row)
                seen.add(amount)
                # No even row that is nearer is barred, and a row this near is.
                for other in itertools.product(*[range(item - amount, item + amount + 1) for item in row]):
                    if sum(other) % 2 == 0 and plain_distance(other, row) < amount:
                        self.assertIn(other, rows)
        self.assertTrue(seen >= {0, 1, 2, 3}, seen)
        self.same([self.told(complete(3, 3), row) for row in ((2, 2, 2), (3, 3, 4), (3, 3, 3))], [4, 4, 5])

    def test_by_lots(self):
        rng = seeded(140)
        for size in (2, 3, 4, 5):
            for _ in range(12):
                web = random_web(rng, size, rng.choice((3, MOST)), rng.choice((0.2, 0.7)))
                row = random_row(rng, web, rng.choice((0, 0, 3)))
                if rng.random() < 0.4:
                    row = kept_web(rng, web).degrees
                lots = [one for one in plain_lots(size) if one != ((), ()) or len(plain_pieces(web, one)) > 1]
                expected = min(max(plain_excess(web, row, one) + 2, sum(row) % 2) for one in lots)
                self.same(self.told(web, row), expected)

    def test_without_places_and_of_one(self):
        self.same(nearest_barred(Web(0), ()), None)
        for x, expected in ((0, 2), (1, 1), (-1, 1), (2, 0), (-2, 0), (3, 1), (FAR, 0), (-FAR, 0), (FAR - 1, 1)):
            self.same(self.told(Web(1), (x,)), expected)

    def test_several_pieces(self):
        # Rows that only an odd piece bars, and rows that are odd in two, one, none and all pieces.
        web = beside(complete(2, 9), complete(2, 9))
        for row, expected in (((4, 4, 4, 4), 2), ((4, 4, 5, 4), 1), ((4, 5, 5, 4), 0), ((4, 4, 9, 9), 2)):
            self.same(self.told(web, row), expected)
        lonely = Web(5)
        for row in itertools.product((0, 1), repeat=5):
            odd = sum(row)
            self.same(self.told(lonely, row), {0: 2, 1: 1}.get(odd, odd % 2))

    def test_far_rows(self):
        full = complete(5, MOST)
        middle = (2 * MOST,) * 5
        self.same(self.told(full, middle), 2 * MOST + 2)
        self.same(self.told(full, (0,) * 5), 2)
        self.same(self.told(full, (1, 0, 0, 0, 0)), 1)
        self.same(self.told(full, full.degrees), 2)
        for row in ((FAR,) * 5, (-FAR,) * 5, (FAR, -FAR, FAR, -FAR, 0)):
            self.same(self.told(full, row), 0)
            self.same(self.told(full, (row[0] + 1, *row[1:])), 1)

    def test_mirrors_and_other_names(self):
        rng = seeded(141)
        for _ in range(20):
            web = random_web(rng, 4, 6)
            row = random_row(rng, web, 0)
            amount = self.told(web, row)
            self.same(self.told(web, tuple(d - x for d, x in zip(web.degrees, row))), amount)
            order = tuple(rng.sample(range(4), 4))
            self.same(self.told(renamed(web, order), moved(row, order)), amount)

    def test_more_ties(self):
        rng = seeded(142)
        for _ in range(20):
            web, more = random_web(rng, 4, 4), random_web(rng, 4, 2)
            row = random_row(rng, web, 0)
            self.assertLessEqual(self.told(web, row), self.told(web + more, row))

    def test_too_many(self):
        for size in (6, 60):
            self.fails(TooMany, {"limit": 5}, nearest_barred, complete(size, 1), (1,) * size)
        self.same(self.told(complete(5, 1), (2,) * 5), 4)

    def test_returns_the_same_each_time(self):
        self.truth(same(nearest_barred(THREE, (1, 1)), nearest_barred(THREE, (1, 1))), True)


if __name__ == "__main__":
    unittest.main()
