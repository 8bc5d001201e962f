"""[5], [6], [7], [9], [10], [11], [12], [50], [51], [52]: worst."""

import inspect
import itertools
import unittest

from contentties import worst as worst_file
from contentties.drafts import Draft
from contentties.errors import TooMany
from contentties.lacks import lack
from contentties.lots import is_lots, is_row
from contentties.shapes import beside, complete, line, moved, renamed
from contentties.wants import Want
from contentties.webs import Web
from contentties.worst import every, has_row, is_out_of, is_wants, least_excess, worst
from tests.helpers import (
    NO_INTEGERS, Agreeing, Case, granted, members, plain_excess, plain_lack, plain_lots, random_wants, random_web,
    rows_from, seeded, want_of,
)

MOST = 10 ** 9
FAR = 10 ** 12
WEB = Web(3, [(0, 1, 2), (2, 1, 1)])
THREE, GAP = Web(2, [(0, 1, 3)]), Want(0, 3)


def plain_least(web, wants, parity, lots):
    """The least excess, by all rows from small wants."""
    return min([plain_excess(web, row, lots) for row in rows_from(wants, parity)], default=None)


def filled(want):
    """The Want with all integers of each parity between those of this one."""
    ends = [(want.least(parity), want.greatest(parity)) for parity in (0, 1) if want.least(parity) is not None]
    return want_of([x for low, high in ends for x in range(low, high + 1, 2)])


def wide_wants(rng, size, far=3 * MOST):
    """Wants with very many integers, with gaps, with few integers, also below 0."""
    wants = []
    for _ in range(size):
        low = rng.choice((0, -5, rng.randint(-MOST, MOST)))
        kind = rng.randint(0, 4)
        if kind == 0:
            want = Want.between(low, min(MOST, low + rng.choice((3, MOST))))
        elif kind == 1:
            want = Want.stepped(low, min(MOST, low + rng.choice((3, MOST))))
        elif kind == 2:
            want = Want(low, rng.randint(-MOST, MOST), rng.randint(-MOST, MOST))
        elif kind == 3:
            want = Want.stepped(low, low + 4) | (Want.stepped(0, 6) + rng.randint(0, far))
        else:
            want = Want(rng.randint(0, MOST))
        wants.append(want)
    return tuple(wants)


class Interface(Case):
    def test_names_and_arguments(self):
        for name, arguments in {
            "is_wants": ["web", "thing"], "is_out_of": ["wants", "row"], "has_row": ["wants", "parity"],
            "least_excess": ["web", "wants", "parity", "lots"], "worst": ["web", "wants", "parity"],
            "every": ["web", "wants"],
        }.items():
            call = getattr(worst_file, name)
            self.assertEqual(list(inspect.signature(call).parameters), arguments)
            self.assertEqual(call.__module__, "contentties.worst")

    def test_example(self):
        self.same([every(THREE, (GAP, GAP)), least_excess(THREE, (GAP, GAP), 0, ((0,), (1,))),
                   least_excess(THREE, (GAP, GAP), 1, ((0,), (1,)))], [("every",), 0, -3])
        self.same([worst(THREE, (GAP, GAP), 1)[0], every(THREE, (Want(1), Want(2))),
                   every(THREE, (Want(1), Want(3)))[:2]], [3, ("none",), ("barred", (1, 3))])


class Wants(Case):
    def test_wants(self):
        for wants in ((Want(0), GAP, Want(5)), (Want(-3), Want.between(-MOST, MOST), Want(1) + FAR)):
            self.truth(is_wants(WEB, wants), True)
        self.truth(is_wants(Web(0), ()), True)
        self.truth(is_wants(Web(60), (Want(0),) * 60), True)

    def test_no_wants(self):
        good = (Want(0), GAP, Want(5))
        for thing in NO_INTEGERS + (0, list(good), good[:2], good + good[:1], Want(0, 3, 5), {0: GAP, 1: GAP, 2: GAP},
                                    Agreeing(), iter(good), [good], (good,), "abc", (0, 3, 5)):
            self.truth(is_wants(WEB, thing), False, repr(thing))
        for value in NO_INTEGERS + (0, 1, (0, 3), Web(3), Draft(WEB), Agreeing(), Want(), ((0, 0),)):
            if value != Want(1) or isinstance(value, Agreeing):
                for at in range(3):
                    self.truth(is_wants(WEB, good[:at] + (value,) + good[at + 1:]), False, repr(value))
        for thing in ([], None, 0, (GAP,), (Want(),), "", {}, False, GAP):
            self.truth(is_wants(Web(0), thing), False, repr(thing))
        self.truth(is_wants(Web(60), (Want(0),) * 59), False)

    def test_rows_from_wants(self):
        wants = (Want(0, 3), Want(-1, 0, 1), Want.stepped(-4, 4))
        rows = set(rows_from(wants))
        for row in itertools.product(range(-5, 6), repeat=3):
            self.truth(is_out_of(wants, row), row in rows)
        self.truth(is_out_of((), ()), True)
        wide = (Want.between(-MOST, MOST) + FAR, Want.stepped(-MOST, MOST) - FAR + MOST) * 30
        self.truth(is_out_of(wide, (FAR, -FAR) * 30), True)
        self.truth(is_out_of(wide, (FAR, -FAR) * 29 + (FAR, -FAR + 1)), False)
        self.truth(is_out_of(wide, (FAR - MOST - 1, -FAR) + (FAR, -FAR) * 29), False)

    def test_has_row(self):
        kinds = (Want(0), Want(3), Want(-1), Want(-2, 4), Want(1, -5), Want(2, 5), Want.stepped(0, 10 ** 8),
                 Want.between(-7, 7) - FAR)
        for size in range(4):
            for wants in itertools.product(kinds, repeat=size):
                ways = [{0, 1} if want.evens and want.odds else {want.low % 2} for want in wants]
                found = {sum(way) % 2 for way in itertools.product(*ways)}
                for parity in (0, 1):
                    self.truth(has_row(wants, parity), parity in found, f"{wants} {parity}")
        self.truth(has_row((), 0), True)
        self.truth(has_row((), 1), False)
        self.truth(has_row((Want(1, 3),) * 60, 0), True)
        self.truth(has_row((Want(1, 3),) * 60, 1), False)
        self.truth(has_row((Want(1, 3),) * 59 + (Want(1, 2),), 1), True)


class LeastExcess(Case):
    def test_all_lots_of_small_webs(self):
        rng = seeded(80)
        seen = set()
        for size, most, times in ((0, 0, 1), (1, 0, 6), (2, 4, 20), (3, 3, 30), (4, 2, 20), (5, 2, 5)):
            for _ in range(times):
                web = random_web(rng, size, most, 0.4)
                wants = random_wants(rng, web, 3, 2)
                for lots in plain_lots(size):
                    for parity in (0, 1):
                        expected = plain_least(web, wants, parity, lots)
                        seen.add(expected is None)
                        self.same(least_excess(web, wants, parity, lots), expected)
        self.assertEqual(seen, {True, False})

    def test_each_turn(self):
        free = (Want(2, 5), Want(1, 8), Want(4, 6), Want(0, 2))
        web = Web(4, [(2, 3, 1)])
        # The place of s, that of t, and a piece with a free place, in which a turn is cheapest.
        self.same([least_excess(web, free, parity, ((0,), (1,))) for parity in (0, 1)], [-6, -3])
        self.same([least_excess(web, free, parity, ((1,), (0,))) for parity in (0, 1)], [-4, -1])
        self.same([least_excess(web, free[:3] + (Want(0, 3),), parity, ((0,), (1,))) for parity in (0, 1)], [-6, -7])
        self.same([least_excess(web, (Want(2), Want(1), *free[2:]), parity, ((0,), (1,))) for parity in (0, 1)],
                  [None, 1])

    def test_turns_of_far_integers(self):
        wants = (Want(0) | (Want(1) + FAR), Want(-3) | (Want(0) - FAR))
        self.same(least_excess(THREE, wants, 1, ((0,), ())), -1 + 0)
        self.same(least_excess(THREE, wants, 0, ((0, 1), ())), -FAR)
        self.same(least_excess(THREE, wants, 1, ((0, 1), ())), -3)
        self.same(least_excess(THREE, wants, 0, ((), (0, 1))), 6 - (FAR + 1) + 3)
        self.same(least_excess(THREE, wants, 1, ((), (0, 1))), 6 - (FAR + 1) + FAR)

    def test_large_webs(self):
        rng = seeded(81)
        for size in (6, 20, 60):
            web = random_web(rng, size, MOST, 0.9)
            for _ in range(6):
                wants = [Want(rng.randint(-5, MOST)) for _ in range(size)]
                at = rng.randrange(size)
                wants[at] = Want(*[rng.randint(-MOST, MOST) for _ in range(rng.randint(1, 3))])
                marks = [rng.choice((0, 0, 1, 2)) for _ in range(size)]
                lots = (tuple(v for v in range(size) if marks[v] == 1), tuple(v for v in range(size) if marks[v] == 2))
                for parity in (0, 1):
                    expected = plain_least(web, wants, parity, lots)
                    self.same(least_excess(web, tuple(wants), parity, lots), expected)

    def test_many_free_pieces(self):
        # Each place of t has 59 ties, the others are pieces of their own, or one piece.
        wants = (Want.between(-MOST, MOST),) * 60
        lonely, full = Web(60), complete(60, 1)
        self.same([least_excess(lonely, wants, parity, ((), ())) for parity in (0, 1)], [-60, -59])
        self.same([least_excess(full, wants, parity, ((), ())) for parity in (0, 1)], [0, -1])
        self.same([least_excess(full, wants, parity, ((0,), (1,))) for parity in (0, 1)],
                  [-MOST + 58 - MOST, -MOST + 58 - MOST - 1])
        self.same(least_excess(full, (Want(1),) * 60, 0, ((), ())), 0)
        self.same(least_excess(full, (Want(1),) * 60, 1, ((), ())), None)
        self.same(least_excess(full, (Want(1),) * 60, 0, (tuple(range(59)), (59,))), 59 + 0 - 1)
        self.same(least_excess(Web(0), (), 0, ((), ())), 0)
        self.same(least_excess(Web(0), (), 1, ((), ())), None)


class Worst(Case):
    def told(self, web, wants, parity):
        """The row is from the wants, its lack is the amount, by the told lots; the amount is returned."""
        found = worst(web, wants, parity)
        if found is None:
            return None
        self.assertIs(type(found), tuple)
        amount, row, lots = found
        self.truth(is_row(web, row), True)
        self.truth(is_lots(web, lots), True)
        self.same(sum(row) % 2, parity)
        self.assertTrue(all(item in want for item, want in zip(row, wants)))
        self.assertIs(type(amount), int)
        self.same(-plain_excess(web, row, lots), amount)
        self.same(lack(web, row)[0], amount)
        return amount

    def told_every(self, web, wants, amount):
        """every agrees with the amount of worst for even rows, None if there is none."""
        found = every(web, wants)
        if amount is None:
            self.same(found, ("none",))
        elif amount == 0:
            self.same(found, ("every",))
        else:
            self.assertEqual((type(found), len(found), found[0]), (tuple, 3, "barred"))
            _, row, lots = found
            self.truth(is_row(web, row), True)
            self.truth(is_lots(web, lots), True)
            self.same(sum(row) % 2, 0)
            self.assertTrue(all(item in want for item, want in zip(row, wants)))
            self.assertLess(plain_excess(web, row, lots), 0)

    def by_plain_search(self, web, wants):
        rows = granted(web)
        for parity in (0, 1):
            expected = max([plain_lack(rows, row) for row in rows_from(wants, parity)], default=None)
            self.same(self.told(web, wants, parity), expected)
            if parity == 0:
                self.told_every(web, wants, expected)
        return expected

    def test_small_webs(self):
        rng = seeded(82)
        for size, most, times in ((0, 0, 1), (1, 0, 10), (2, 4, 60), (3, 3, 60), (4, 2, 12), (5, 1, 8)):
            for _ in range(times):
                web = random_web(rng, size, most, 0.3)
                self.by_plain_search(web, random_wants(rng, web, rng.choice((1, 3, 3)), rng.choice((0, 2))))

    def test_webs_that_grant_every_row(self):
        rng = seeded(83)
        answers = set()
        for _ in range(60):
            size = rng.randint(2, 4)
            web = complete(size, 3)
            wants = tuple(Want(*[rng.randint(1, 3) for _ in range(2)]) for _ in range(size))
            self.by_plain_search(web, wants)
            answers.add(every(web, wants)[0])
        self.assertEqual(answers, {"every", "none", "barred"})

    def test_one_row(self):
        rng = seeded(84)
        for _ in range(30):
            web = random_web(rng, rng.randint(1, 5), 5)
            row = tuple(rng.randint(-2, degree + 2) for degree in web.degrees)
            wants = tuple(Want(item) for item in row)
            found = worst(web, wants, sum(row) % 2)
            self.same((found[0], found[1]), (lack(web, row)[0], row))
            self.same(worst(web, wants, 1 - sum(row) % 2), None)

    def test_without_places(self):
        self.same(worst(Web(0), (), 0), (0, (), ((), ())))
        self.same(worst(Web(0), (), 1), None)
        self.same(every(Web(0), ()), ("every",))

    def test_no_row_of_a_parity(self):
        for wants in ((Want(1), Want(2)), (Want(1, 3), Want.stepped(-4, 4))):
            self.same(worst(THREE, wants, 0), None)
            self.same(every(THREE, wants), ("none",))
            self.same(self.told(THREE, wants, 1) is None, False)
        self.same(worst(THREE, (Want(1, 5), Want(3, -1)), 1), None)

    def test_large_bundles_and_wide_wants(self):
        rng = seeded(85)
        for size in (2, 3, 4, 5):
            for _ in range(6):
                web = random_web(rng, size, MOST, 0.2)
                wants = wide_wants(rng, size)
                for parity in (0, 1):
                    amount = self.told(web, wants, parity)
                    if parity == 0:
                        self.told_every(web, wants, amount)
                    for lots in plain_lots(size):
                        least = least_excess(web, wants, parity, lots)
                        if amount is None:
                            self.same(least, None)
                        else:
                            self.assertLessEqual(-least, amount)

    def test_large_wants_that_are_all_granted(self):
        full, half = complete(5, MOST), Want.between(MOST // 2, MOST)
        for wants in ((half,) * 5, (half, Want.stepped(MOST // 2 + 1, MOST)) * 2 + (Want(MOST, MOST // 2 + 7),)):
            self.same(every(full, wants), ("every",))
            self.same([self.told(full, wants, parity) for parity in (0, 1)], [0, 1])
            self.same(every(full, wants[:4] + (Want(0, 4 * (MOST // 4) - 1),))[0], "every")
            self.same(every(full, wants[:3] + (Want(0), Want(0, MOST)))[0], "every")
            self.same(every(full, (Want(1), Want(0), Want(0), Want(0), half))[0], "barred")
        self.same(self.told(full, (Want(0),) * 4 + (Want(MOST),), 0), MOST)
        self.same(self.told(full, (Want(0) + FAR, Want(0) - FAR, Want(0, 2), Want(1), Want(1)), 0), 2 * FAR - 2)

    def test_corners_decide(self):
        # [7]: integers between the corners change nothing.
        rng = seeded(86)
        for _ in range(25):
            size = rng.randint(1, 5)
            web = random_web(rng, size, 5)
            wants = random_wants(rng, web, 6, 2)
            few = tuple(Want(*want.corners) for want in wants)
            many = tuple(filled(want) for want in wants)
            for parity in (0, 1):
                amount = self.told(web, wants, parity)
                self.same(self.told(web, few, parity), amount)
                self.same(self.told(web, many, parity), amount)

    def test_mirrors(self):
        rng = seeded(87)
        for _ in range(20):
            web = random_web(rng, rng.randint(0, 5), 6)
            wants = random_wants(rng, web, 3, 3)
            mirrored = tuple(degree - want for degree, want in zip(web.degrees, wants))
            for parity in (0, 1):
                self.same(self.told(web, wants, parity), self.told(web, mirrored, parity))
            self.same(every(web, wants)[0], every(web, mirrored)[0])

    def test_side_by_side(self):
        rng = seeded(88)
        for _ in range(25):
            cut = rng.randint(0, 5)
            one, other = random_web(rng, cut, 4), random_web(rng, 5 - cut, 4)
            first, second = random_wants(rng, one, 2), random_wants(rng, other, 2)
            for parity in (0, 1):
                pairs = [(self.told(one, first, p), self.told(other, second, (parity + p) % 2)) for p in (0, 1)]
                expected = max([a + b for a, b in pairs if a is not None and b is not None], default=None)
                self.same(self.told(beside(one, other), first + second, parity), expected)

    def test_more_ties_and_fewer_integers(self):
        rng = seeded(89)
        for _ in range(25):
            size = rng.randint(1, 5)
            web, more = random_web(rng, size, 4), random_web(rng, size, 3)
            wants = random_wants(rng, web, 4)
            fewer = tuple(Want(*rng.sample(members(want), rng.randint(1, want.many))) for want in wants)
            for parity in (0, 1):
                amount = self.told(web, wants, parity)
                if amount is not None:
                    self.assertLessEqual(self.told(web + more, wants, parity), amount)
                    self.assertLessEqual(self.told(web, fewer, parity) or 0, amount)

    def test_both_parities_together(self):
        # [6]: at most 1 if and only if every even row is granted, and every odd one after a change by 1.
        web, wants = complete(3, 2), (Want.between(1, 2),) * 3
        self.same([self.told(web, wants, parity) for parity in (0, 1)], [0, 1])
        web, wants = line(3, 2), (Want.between(1, 2),) * 3
        self.same([self.told(web, wants, parity) for parity in (0, 1)], [2, 3])

    def test_other_names(self):
        rng = seeded(90)
        for _ in range(20):
            size = rng.randint(2, 5)
            web = random_web(rng, size, 6)
            wants = random_wants(rng, web)
            order = tuple(rng.sample(range(size), size))
            for parity in (0, 1):
                self.same(self.told(renamed(web, order), moved(wants, order), parity), self.told(web, wants, parity))
                for lots in ((tuple(range(1, size)), (0,)), ((0,), (size - 1,)), ((), (1,))):
                    named = tuple(tuple(sorted(order[v] for v in places)) for places in lots)
                    self.same(least_excess(renamed(web, order), moved(wants, order), parity, named),
                              least_excess(web, wants, parity, lots))

    def test_too_many(self):
        for size in (6, 60):
            web = complete(size, 1)
            for wants in ((GAP,) * size, (Want(1),) * (size - 1) + (Want(2),)):
                self.fails(TooMany, {"limit": 5}, worst, web, wants, 0)
                self.fails(TooMany, {"limit": 5}, worst, web, wants, 1)
                self.fails(TooMany, {"limit": 5}, every, web, wants)
                self.assertIsNotNone(least_excess(web, wants, 1, ((0,), (1,))))
        self.same(every(complete(5, 1), (Want(4),) * 5), ("every",))

    def test_returns_the_same_each_time(self):
        self.same(worst(THREE, (GAP, GAP), 1), worst(THREE, (GAP, GAP), 1))
        self.same(every(THREE, (Want(1), Want(3))), every(THREE, (Want(1), Want(3))))


if __name__ == "__main__":
    unittest.main()
