"""[7], [8], [9], [10], [11], [12], [54], [55]: widest and ahead."""

import inspect
import itertools
import unittest

from contentties import widest as widest_file
from contentties.errors import TooMany
from contentties.shapes import beside, complete, line, moved, renamed
from contentties.spans import span
from contentties.spares import settled
from contentties.wants import Want
from contentties.webs import Web
from contentties.widest import ahead, widest
from contentties.worst import every, has_row
from tests.helpers import (
    Case, all_choices, granted, kept_web, members, pairs_of, random_wants, random_web, rows_from, seeded,
)

MOST = 10 ** 9
FAR = 10 ** 12
THREE, ONE = Web(2, [(0, 1, 3)]), Web(2, [(0, 1, 1)])


def put(wants, place, want):
    """The wants with another one at a place."""
    return (*wants[:place], want, *wants[place + 1:])


def plain_widest(web, wants, place):
    """The answer of widest, by all rows from small wants."""
    rows = granted(web)
    found = []
    for x in range(-3, web.degrees[place] + 4):
        even = rows_from(put(wants, place, Want(x)), 0)
        if even and all(row in rows for row in even):
            found.append(x)
    return Want(*found)


def plain_ahead(web, wants, u, v):
    """The answer of ahead, by all choices of a small web."""
    kept = {}
    for choice in all_choices(web):
        kept.setdefault(choice.degrees, set()).add(choice[u, v])
    found = set(range(web[u, v] + 1))
    for row in rows_from(wants, 0):
        found = found & kept.get(row, set())
    return Want(*found)


class Interface(Case):
    def test_names_and_arguments(self):
        for name, arguments in {"widest": ["web", "wants", "place"], "ahead": ["web", "wants", "u", "v"]}.items():
            call = getattr(widest_file, name)
            self.assertEqual(list(inspect.signature(call).parameters), arguments)
            self.assertEqual(call.__module__, "contentties.widest")

    def test_example(self):
        bit = Want(0, 1)
        self.same([ahead(ONE, (bit, bit), 0, 1) == Want(), ahead(ONE, (bit, Want(1)), 0, 1) == Want(1)], [True, True])
        self.same([widest(THREE, (Want(7), Want(1, 2)), 0) == Want(1, 2),
                   widest(THREE, (Want(7), Want(1, 3)), 0) == Want()], [True, True])


class Widest(Case):
    def told(self, web, wants, place):
        found = widest(web, wants, place)
        self.assertIs(type(found), Want)
        self.assertLessEqual(max(len(found.evens), len(found.odds)), 1)
        return found

    def by_plain_search(self, web, wants, place):
        found, expected = self.told(web, wants, place), plain_widest(web, wants, place)
        self.assertEqual(found, expected, f"{web.ties} {[str(want) for want in wants]} {place}: {found}")
        return found

    def test_small_webs(self):
        rng = seeded(110)
        seen = set()
        for size, most, times in ((1, 0, 10), (2, 5, 60), (3, 3, 60), (4, 2, 15), (5, 1, 8)):
            for _ in range(times):
                web = random_web(rng, size, most, 0.1)
                wants = random_wants(rng, web, 2, 0)
                found = self.by_plain_search(web, wants, rng.randrange(size))
                seen.add((bool(found.evens), bool(found.odds)))
        self.assertEqual(seen, set(itertools.product((True, False), repeat=2)))

    def test_gaps_and_narrow_wants(self):
        for number in range(6):
            web = Web(2, [(0, 1, number)])
            for want in (Want(0), Want(1), Want(2, 3), Want(0, 3), Want(0, 2, 5), Want(5), Want(1, 4)):
                self.by_plain_search(web, (Want(0), want), 0)
                self.by_plain_search(web, (want, Want(0)), 1)
        web = complete(3, 3)
        for first, second in itertools.product((Want(0), Want(1), Want(1, 3), Want(2, 3), Want(0, 4)), repeat=2):
            self.by_plain_search(web, (first, Want(9), second), 1)

    def test_only_what_stands_in_some_even_row(self):
        # Of one parity only one kind of integer stands in even rows; of two parities both kinds do.
        web = complete(3, 4)
        self.assertEqual(self.told(web, (Want(2, 4), Want(3), Want(0)), 2), Want(1, 3, 5))
        self.assertEqual(self.told(web, (Want(2, 4), Want(4), Want(0)), 2), Want(2, 4, 6))
        self.assertEqual(self.told(web, (Want(3, 4), Want(4), Want(0)), 2), Want.between(0, 8))
        self.assertEqual(self.told(web, (Want(2, 4), Want(9), Want(0)), 2), Want())

    def test_what_stands_at_the_place(self):
        rng = seeded(111)
        for _ in range(15):
            web = random_web(rng, 4, 5)
            wants = random_wants(rng, web, 2, 0)
            place = rng.randrange(4)
            first = self.told(web, wants, place)
            for want in (Want(0), Want(1, 2), Want(-5), Want.between(-MOST, MOST), Want(3) + FAR):
                self.assertEqual(self.told(web, put(wants, place, want), place), first)

    def test_one_place(self):
        self.assertEqual(self.told(Web(1), (Want(3),), 0), Want(0))
        self.assertEqual(self.told(Web(3), (Want(0), Want(3), Want(0)), 1), Want(0))
        self.assertEqual(self.told(Web(3), (Want(0), Want(3), Want(2)), 1), Want())

    def test_more_ties_than_the_greatest_number(self):
        full = complete(5, MOST)
        self.assertEqual(self.told(full, (Want(MOST),) + (Want.between(MOST, MOST),) * 4, 0).high, 4 * MOST)
        zero = Want(0)
        self.assertEqual(str(self.told(full, (zero, *[Want.between(MOST // 2, MOST)] * 4), 0)), f"0..{2 * MOST}/2, "
                         f"1..{2 * MOST + 1}/2")
        odd = Want(MOST - 1) + MOST
        self.assertEqual(str(self.told(full, (zero, odd, odd, odd, odd), 0)), f"0..{4 * MOST}/2")

    def by_every(self, web, wants, place):
        """By every: what is in the answer is right, what lies beside its ends is wrong."""
        found = self.told(web, wants, place)
        for parity in (0, 1):
            low, high = found.least(parity), found.greatest(parity)
            if low is None:
                for x in (parity, parity + 2, web.degrees[place] // 2 * 2 + parity, web.degrees[place] // 4 * 2 + parity):
                    self.assertNotEqual(every(web, put(wants, place, Want(0) + x))[0], "every")
            else:
                for x, expected in ((low - 2, "barred"), (low, "every"), (high, "every"), (high + 2, "barred"),
                                    ((low + high) // 4 * 2 + parity, "every")):
                    if low <= x <= high or expected == "barred":
                        self.assertEqual(every(web, put(wants, place, Want(0) + x))[0], expected)
        return found

    def test_large_bundles_and_wide_wants(self):
        rng = seeded(112)
        seen = 0
        for size in (2, 3, 4, 5):
            for _ in range(8):
                web = complete(size, MOST) if rng.random() < 0.5 else random_web(rng, size, MOST, 0)
                wants = []
                for degree in web.degrees:
                    low = rng.randint(degree // 4, degree // 2)
                    some = Want.stepped(0, rng.choice((0, 5, MOST // 9))) + low
                    wants.append(some | (Want(0) + (low + rng.choice((0, 5, 7)))))
                found = self.by_every(web, tuple(wants), rng.randrange(size))
                seen = seen + bool(found)
        self.assertGreater(seen, 12)

    def test_mirrors(self):
        rng = seeded(113)
        for _ in range(20):
            web = random_web(rng, 4, 5, 0.1)
            wants = random_wants(rng, web, 2, 0)
            mirrored = tuple(degree - want for degree, want in zip(web.degrees, wants))
            place = rng.randrange(4)
            self.assertEqual(self.told(web, mirrored, place), web.degrees[place] - self.told(web, wants, place))

    def test_more_ties_and_other_names(self):
        rng = seeded(114)
        for _ in range(20):
            web, more = random_web(rng, 4, 4, 0.1), random_web(rng, 4, 2)
            wants = random_wants(rng, web, 2, 0)
            place = rng.randrange(4)
            found = self.told(web, wants, place)
            self.truth(found.within(self.told(web + more, wants, place)), True)
            order = tuple(rng.sample(range(4), 4))
            self.assertEqual(self.told(renamed(web, order), moved(wants, order), order[place]), found)

    def test_side_by_side(self):
        # What stands in some even row depends on the other part, what is granted here does not.
        one, other = complete(2, 4), complete(3, 4)
        for wants, expected in (((Want(4), Want(4), Want(4)), Want(3)), ((Want(4), Want(3), Want(4)), Want()),
                                ((Want(4), Want(3, 4), Want(4)), Want(3)), ((Want(4), Want(4), Want(9, 4)), Want(3)),
                                ((Want(4), Want(4), Want(10, 4)), Want())):
            self.assertEqual(self.told(beside(one, other), (Want(3), Want(3), *wants), 0), expected)

    def test_too_many(self):
        for size in (6, 60):
            self.fails(TooMany, {"limit": 5}, widest, complete(size, 1), (Want(1),) * size, size - 1)
            self.fails(TooMany, {"limit": 5}, widest, complete(size, 1), (Want(1, 2),) * size, 0)
        self.assertEqual(self.told(complete(5, 1), (Want(2),) * 5, 4), Want(0, 2, 4))

    def test_decides_every(self):
        # [54]: every is not barred if and only if what stands in some even row is in the answer.
        rng = seeded(115)
        for _ in range(60):
            size = rng.randint(1, 4)
            web = random_web(rng, size, 3, 0)
            wants = random_wants(rng, web, 2, 0)
            place = rng.randrange(size)
            standing = Want(*{row[place] for row in rows_from(wants, 0)})
            self.truth(standing.within(self.told(web, wants, place)), every(web, wants)[0] != "barred")


class Ahead(Case):
    def told(self, web, wants, u, v):
        found = ahead(web, wants, u, v)
        self.assertIs(type(found), Want)
        self.assertLessEqual(max(len(found.evens), len(found.odds)), 1)
        return found

    def by_plain_search(self, web, wants, u, v):
        found, expected = self.told(web, wants, u, v), plain_ahead(web, wants, u, v)
        self.assertEqual(found, expected, f"{web.ties} {[str(want) for want in wants]} {u} {v}: {found}")
        return found

    def test_small_webs(self):
        rng = seeded(116)
        seen = set()
        for size, most, times in ((2, 5, 40), (3, 4, 60), (4, 2, 12), (5, 1, 6)):
            for _ in range(times):
                web = random_web(rng, size, most, 0.1)
                wants = tuple(Want(x, x + rng.randint(0, 1)) for x in kept_web(rng, web).degrees)
                found = self.by_plain_search(web, wants, *rng.sample(range(size), 2))
                seen.add((bool(found.evens), bool(found.odds)))
        self.assertEqual(seen, set(itertools.product((True, False), repeat=2)))

    def test_empty_though_each_row_has_a_choice(self):
        bit = Want(0, 1)
        self.same(every(ONE, (bit, bit)), ("every",))
        self.assertEqual(self.by_plain_search(ONE, (bit, bit), 1, 0), Want())
        self.assertEqual(self.by_plain_search(complete(3, 1), (bit, bit, bit), 1, 0), Want())
        self.assertEqual(self.by_plain_search(complete(4, 2), (Want(2),) * 4, 1, 0), Want(0, 1, 2))

    def test_no_even_row(self):
        for web, wants in ((THREE, (Want(1), Want(2))), (complete(3, 5), (Want(100), Want(-3), Want(0))),
                           (Web(2), (Want(0), Want(1))), (complete(5, MOST), (Want(1),) * 5)):
            self.same(every(web, wants), ("none",))
            self.assertEqual(self.told(web, wants, 0, 1), Want.between(0, web[0, 1]))
            self.assertEqual(self.told(web, wants, 1, 0), Want.between(0, web[0, 1]))

    def test_bundles_without_ties(self):
        self.assertEqual(self.told(line(3, 2), (Want(1), Want(2), Want(1)), 0, 2), Want(0))
        self.assertEqual(self.told(line(3, 2), (Want(1), Want(2), Want(3)), 0, 2), Want())
        self.assertEqual(self.told(Web(2), (Want(0), Want(0)), 0, 1), Want(0))
        self.assertEqual(self.told(Web(2), (Want(1), Want(1)), 0, 1), Want())

    def test_one_row_is_a_span(self):
        rng = seeded(117)
        for _ in range(30):
            size = rng.randint(2, 5)
            web = random_web(rng, size, rng.choice((4, MOST)), 0.2)
            row = kept_web(rng, web).degrees
            u, v = rng.sample(range(size), 2)
            self.assertEqual(self.told(web, tuple(Want(0) + x for x in row), u, v), span(web, row, u, v))

    def by_every(self, web, wants, u, v):
        """By every of what is settled: what is in the answer is right, what lies beside its ends is wrong."""
        found = self.told(web, wants, u, v)
        self.assertTrue(has_row(wants, 0))
        for parity in (0, 1):
            low, high = found.least(parity), found.greatest(parity)
            if low is None:
                numbers = {x: False for x in (parity, parity + 2, web[u, v] // 2 * 2 - parity, web[u, v] // 4 * 2 + parity)}
            else:
                numbers = {low - 2: False, low: True, high: True, high + 2: False, (high - low) // 4 * 2 + low: True}
            for x, expected in numbers.items():
                if 0 <= x <= web[u, v]:
                    self.truth(every(*settled(web, wants, u, v, x))[0] == "every", expected)
        return found

    def test_large_bundles_and_wide_wants(self):
        rng = seeded(118)
        seen = 0
        for size in (2, 3, 4, 5):
            for _ in range(8):
                web = complete(size, MOST) if rng.random() < 0.5 else random_web(rng, size, MOST, 0)
                wants = tuple(Want.between(0, rng.choice((0, 3, MOST // 20))) + x for x in kept_web(rng, web).degrees)
                if has_row(wants, 0):
                    seen = seen + bool(self.by_every(web, wants, *rng.sample(range(size), 2)))
        self.assertGreater(seen, 8)

    def test_contains_what_every_of_the_settled_tells(self):
        rng = seeded(119)
        for _ in range(30):
            size = rng.randint(2, 5)
            web = random_web(rng, size, 4, 0.1)
            wants = tuple(Want(x, x + rng.randint(0, 2)) for x in kept_web(rng, web).degrees)
            u, v = rng.sample(range(size), 2)
            right = [x for x in range(web[u, v] + 1) if every(*settled(web, wants, u, v, x))[0] != "barred"]
            self.same(members(self.told(web, wants, u, v)), right)

    def test_mirrors_and_other_names(self):
        rng = seeded(120)
        for _ in range(20):
            web = random_web(rng, 4, 4, 0.1)
            wants = tuple(Want(x, x + rng.randint(0, 1)) for x in kept_web(rng, web).degrees)
            u, v = rng.sample(range(4), 2)
            found = self.told(web, wants, u, v)
            self.assertEqual(self.told(web, wants, v, u), found)
            mirrored = tuple(degree - want for degree, want in zip(web.degrees, wants))
            self.assertEqual(self.told(web, mirrored, u, v), web[u, v] - found)
            order = tuple(rng.sample(range(4), 4))
            self.assertEqual(self.told(renamed(web, order), moved(wants, order), order[u], order[v]), found)

    def test_too_many(self):
        for size in (6, 60):
            for wants in ((Want(2),) * size, (Want(1),) * (size - 1) + (Want(2),)):
                self.fails(TooMany, {"limit": 5}, ahead, complete(size, 1), wants, 0, 1)
        self.assertEqual(self.told(complete(5, 1), (Want(2),) * 5, 4, 1), Want(0, 1))

    def test_all_pairs_of_a_web(self):
        web, wants = complete(3, 3), (Want(2, 3), Want(3), Want(2))
        for u, v in pairs_of(3):
            self.by_plain_search(web, wants, u, v)


if __name__ == "__main__":
    unittest.main()
