"""[2], [3], [4], [30]: Web."""

import inspect
import unittest

from contentties.drafts import Draft
from contentties.errors import BadTie, TooFew, TooMany, Unequal, Wrong
from contentties.webs import Web
from tests.helpers import NO_INTEGERS, Agreeing, Case, pairs_of, random_web, same, seeded

MOST = 10 ** 9


def full(size, number):
    return Web(size, [(u, v, number) for u, v in pairs_of(size)])


class Made(Case):
    def test_example(self):
        web = Web(3, [(0, 1, 2), (2, 1, 1)])
        self.same([web.ties, web.degrees, web.total, web[1, 0], (0, 2) in web, (2 * web)[1, 2]],
                  [((0, 1, 2), (1, 2, 1)), (2, 3, 1), 3, 2, False, 2])

    def test_without_places(self):
        web = Web(0)
        self.same((web.size, web.ties, web.total, web.degrees), (0, (), 0, ()))
        self.assertEqual(web, Web(0, []))
        self.assertEqual(web + web, web)
        self.assertEqual(web - web, web)
        self.assertEqual(5 * web, web)
        self.truth(web.within(web), True)
        self.same(web.crossing([], ()), 0)

    def test_without_ties(self):
        for size in (1, 2, 60):
            web = Web(size)
            self.same((web.size, web.ties, web.total, web.degrees), (size, (), 0, (0,) * size))
        self.same(Web(2, [(0, 1, 0), (1, 0, 0)]).ties, ())
        self.assertEqual(Web(2, [(0, 1, 0)]), Web(2))

    def test_sixty_places(self):
        web = full(60, 3)
        self.same((web.size, web.total, web.degrees), (60, 3 * 1770, (177,) * 60))
        self.same(len(web.ties), 1770)
        self.same(web[59, 0], 3)
        self.fails(Wrong, {"place": 0}, Web, 61)

    def test_items_of_one_pair_add_up(self):
        web = Web(3, ((2, 0, 1), (0, 2, 4), (1, 0, 0), (2, 1, 7), (0, 2, 2)))
        self.same((web.ties, web.total, web.degrees), (((0, 2, 7), (1, 2, 7)), 14, (7, 7, 14)))
        self.same(Web(2, [(0, 1, MOST - 1), (1, 0, 1)]).ties, ((0, 1, MOST),))
        self.fails(TooMany, {"limit": MOST}, Web, 2, [(0, 1, MOST), (1, 0, 1)])
        self.fails(TooMany, {"limit": MOST}, Web, 3, [(1, 2, MOST // 2), (0, 1, 5), (2, 1, MOST // 2 + 1)])
        self.same(Web(2, [(0, 1, MOST), (1, 0, 0)]).total, MOST)

    def test_plain_properties(self):
        rng = seeded(30)
        for _ in range(200):
            size = rng.randint(2, 7)
            items = []
            for _ in range(rng.randint(0, 12)):
                u, v = rng.sample(range(size), 2)
                items.append((u, v, rng.randint(0, 3)))
            web = Web(size, items)
            numbers = {pair: sum(n for u, v, n in items if {u, v} == set(pair)) for pair in pairs_of(size)}
            self.same(web.ties, tuple((u, v, n) for (u, v), n in sorted(numbers.items()) if n))
            self.same(web.total, sum(numbers.values()))
            self.same(web.degrees, tuple(sum(n for pair, n in numbers.items() if v in pair) for v in range(size)))
            for u, v in numbers:
                self.same((web[u, v], web[v, u]), (numbers[u, v],) * 2)
                self.truth((u, v) in web, numbers[u, v] > 0)
                self.truth((v, u) in web, numbers[u, v] > 0)

    def test_arguments(self):
        self.assertEqual(list(inspect.signature(Web).parameters), ["size", "ties"])
        self.assertEqual(inspect.signature(Web).parameters["ties"].default, ())
        self.assertEqual(Web(size=2, ties=[(0, 1, 1)]), Web(2, ((1, 0, 1),)))

    def test_attributes_and_methods_stand_where_they_belong(self):
        self.assertLessEqual({"size", "ties", "total", "degrees"}, set(vars(Web(1))))
        for name in ("__getitem__", "__contains__", "__eq__", "__add__", "__sub__", "__mul__", "__rmul__", "within",
                     "changed", "crossing"):
            self.assertIn(name, vars(Web))
        self.assertEqual(list(inspect.signature(Web.within).parameters), ["self", "other"])
        self.assertEqual(list(inspect.signature(Web.changed).parameters), ["self", "u", "v", "number"])
        self.assertEqual(list(inspect.signature(Web.crossing).parameters), ["self", "ones", "others"])

    def test_copies_what_it_is_given(self):
        items = [(0, 1, 1)]
        web = Web(2, items)
        items.append((0, 1, 5))
        self.same(web.ties, ((0, 1, 1),))
        self.same(items, [(0, 1, 1), (0, 1, 5)])


class Wrongs(Case):
    def test_size(self):
        for value in (*NO_INTEGERS, -1, 61, 10 ** 60, -10 ** 60):
            self.fails(Wrong, {"place": 0}, Web, value)
            self.fails(Wrong, {"place": 0}, Web, value, None)
            self.fails(Wrong, {"place": 0}, Web, value, [(0, 0, 0)])

    def test_ties(self):
        for value in NO_INTEGERS + (0, 1):
            if not isinstance(value, (list, tuple)):
                self.fails(Wrong, {"place": 1}, Web, 3, value)

    def test_bad_items(self):
        good = (0, 1, 1)
        bad = [value for value in NO_INTEGERS if value != good and value != (0, 1, 2)]
        bad += [(0, 0, 1), (0, 3, 1), (-1, 0, 1), (0, 1, -1), (0, 1, MOST + 1), (0, 1), (0, 1, 1, 1), [0, 1, 1], 5,
                (0, 1, 10 ** 60), (10 ** 60, 0, 1)]
        for value in NO_INTEGERS:
            bad += [(value, 1, 1), (0, value, 1), (0, 1, value)]
        for value in bad:
            self.fails(BadTie, {"at": 0}, Web, 3, [value])
            self.fails(BadTie, {"at": 2}, Web, 3, (good, good, value, None))
            self.fails(BadTie, {"at": 0}, Web, 3, [value, value])

    def test_bad_item_comes_before_too_many(self):
        self.fails(BadTie, {"at": 2}, Web, 2, [(0, 1, MOST), (0, 1, MOST), (0, 1, -1)])

    def test_truths_are_no_places_and_no_numbers(self):
        self.fails(BadTie, {"at": 0}, Web, 2, [(False, 1, 1)])
        self.fails(BadTie, {"at": 0}, Web, 2, [(0, True, 1)])
        self.fails(BadTie, {"at": 0}, Web, 2, [(0, 1, True)])

    def test_no_places_for_ties(self):
        self.fails(BadTie, {"at": 0}, Web, 0, [(0, 1, 0)])
        self.fails(BadTie, {"at": 0}, Web, 1, [(0, 1, 0)])


class Looks(Case):
    def test_in(self):
        web = Web(3, [(0, 1, 2)])
        self.truth((0, 1) in web, True)
        self.truth((1, 0) in web, True)
        for value in NO_INTEGERS + (0, 1, (0, 2), (0, 0), (1, 1), (0, 3), (-1, 0), (3, 0), (-2, 1), [0, 1],
                                    (True, 0), (1, False), (False, True), (0, 1, 2), ("0", "1"), ([], {}),
                                    (10 ** 60, 0), (0, Agreeing()), (Agreeing(), 1)):
            if not same(value, (0, 1)):
                self.truth(value in web, False, repr(value))

    def test_equal(self):
        self.assertEqual(Web(3, [(0, 1, 2)]), Web(3, ((1, 0, 1), (0, 1, 1))))
        self.truth(Web(3, [(0, 1, 2)]) != Web(3, [(0, 1, 2)]), False)
        for other in (Web(2, [(0, 1, 2)]), Web(3, [(0, 1, 1)]), Web(3, [(0, 2, 2)]), Web(3)):
            self.truth(Web(3, [(0, 1, 2)]) == other, False)
            self.truth(Web(3, [(0, 1, 2)]) != other, True)
        self.truth(Web(2) == Web(3), False)

    def test_equal_to_nothing_else(self):
        web = Web(2, [(0, 1, 1)])
        for value in (None, 2, (), [], ((0, 1, 1),), (2, ((0, 1, 1),)), Draft(web), Agreeing(), True):
            self.truth(web == value, False, repr(value))
            self.truth(web != value, True, repr(value))

    def test_queries_change_nothing(self):
        web = Web(3, [(0, 1, 2), (2, 1, 1)])
        for _ in range(2):
            self.same((web[0, 1], web.crossing([0], [1, 2]), web.within(web), web.changed(0, 1, 9).total), (2, 2, True, 10))
            self.same((web.ties, web.degrees), (((0, 1, 2), (1, 2, 1)), (2, 3, 1)))


class Sums(Case):
    def test_plus_minus_and_times(self):
        rng = seeded(31)
        for _ in range(300):
            size = rng.randint(0, 6)
            one, other = random_web(rng, size, 4), random_web(rng, size, 4)
            total = one + other
            self.assertIs(type(total), Web)
            for pair in pairs_of(size):
                self.same(total[pair], one[pair] + other[pair])
                self.same((3 * one)[pair], 3 * one[pair])
                self.same((one * 3)[pair], 3 * one[pair])
            self.assertEqual(total - other, one)
            self.assertEqual(total - total, Web(size))
            self.assertEqual(0 * one, Web(size))
            self.assertEqual(one * 1, one)
            self.assertEqual(one * 2, one + one)

    def test_operators_take_nothing_else(self):
        web = Web(2, [(0, 1, 2)])
        for value in (None, True, False, "1", (1,), Web, Draft(web)):
            for call in (lambda: web + value, lambda: web - value, lambda: web * value, lambda: value * web):
                with self.assertRaises(TypeError):
                    call()
        for call in (lambda: web + 1, lambda: web - 1, lambda: web * web):
            with self.assertRaises(TypeError):
                call()

    def test_operands_stay(self):
        one, other = Web(2, [(0, 1, 5)]), Web(2, [(0, 1, 3)])
        for made in (one + other, one - other, 2 * one, one * 2):
            self.assertIsNot(made, one)
        self.same((one.ties, other.ties), (((0, 1, 5),), ((0, 1, 3),)))

    def test_unequal(self):
        big, small = full(3, MOST), full(2, MOST)
        self.fails(Unequal, {"one": 3, "other": 2}, lambda: big + small)
        self.fails(Unequal, {"one": 2, "other": 3}, lambda: small + big)
        self.fails(Unequal, {"one": 3, "other": 2}, lambda: big - small)
        self.fails(Unequal, {"one": 2, "other": 3}, lambda: small - big)
        self.fails(Unequal, {"one": 0, "other": 60}, lambda: Web(0) + Web(60))

    def test_too_many(self):
        one = Web(3, [(0, 1, MOST), (1, 2, 1)])
        self.same((one + Web(3, [(1, 2, MOST - 1)]))[1, 2], MOST)
        self.fails(TooMany, {"limit": MOST}, lambda: one + Web(3, [(0, 1, 1)]))
        self.fails(TooMany, {"limit": MOST}, lambda: one + one)
        self.fails(TooMany, {"limit": MOST}, lambda: one * 2)
        self.fails(TooMany, {"limit": MOST}, lambda: 2 * one)
        self.fails(TooMany, {"limit": MOST}, lambda: MOST * Web(2, [(0, 1, 2)]))
        self.same((MOST * Web(2, [(0, 1, 1)])).ties, ((0, 1, MOST),))
        self.assertEqual(Web(60) * MOST, Web(60))

    def test_too_few_names_the_least_pair(self):
        one = Web(4, [(0, 1, 5), (0, 3, 1), (1, 2, 1)])
        other = Web(4, [(0, 1, 5), (2, 3, 1), (1, 3, 1), (0, 3, 2)])
        self.fails(TooFew, {"pair": (0, 3)}, lambda: one - other)
        self.fails(TooFew, {"pair": (1, 3)}, lambda: one - Web(4, [(3, 2, 1), (3, 1, 1)]))
        self.fails(TooFew, {"pair": (0, 1)}, lambda: Web(2) - Web(2, [(1, 0, 1)]))


class Methods(Case):
    def test_within(self):
        rng = seeded(32)
        for _ in range(300):
            size = rng.randint(0, 4)
            one, other = random_web(rng, size, 2), random_web(rng, size, 2, empty=0)
            self.truth(one.within(other), all(one[pair] <= other[pair] for pair in pairs_of(size)))
            self.truth(one.within(one + other), True)
        self.truth(Web(2).within(Web(3)), False)
        self.truth(Web(3).within(Web(2)), False)
        self.truth(Web(2).within(Web(2)), True)
        self.truth(Web(2, [(0, 1, 2)]).within(Web(2, [(0, 1, 1)])), False)

    def test_changed(self):
        web = Web(3, [(0, 1, 2), (1, 2, 1)])
        self.same(web.changed(1, 0, 7).ties, ((0, 1, 7), (1, 2, 1)))
        self.same(web.changed(0, 1, 0).ties, ((1, 2, 1),))
        self.same(web.changed(2, 0, MOST).ties, ((0, 1, 2), (0, 2, MOST), (1, 2, 1)))
        self.assertEqual(web.changed(u=2, v=1, number=1), web)
        self.same(web.ties, ((0, 1, 2), (1, 2, 1)))

    def test_crossing(self):
        rng = seeded(33)
        for _ in range(200):
            size = rng.randint(1, 7)
            web = random_web(rng, size, 5)
            order = rng.sample(range(size), size)
            cut, end = sorted((rng.randint(0, size), rng.randint(0, size)))
            ones, others = order[:cut], order[cut:end]
            expected = sum(web[u, v] for u in ones for v in others)
            self.same(web.crossing(ones, tuple(others)), expected)
            self.same(web.crossing(tuple(others), ones), expected)
            rest = [v for v in range(size) if v not in ones]
            self.same(web.crossing(ones, rest) % 2, sum(web.degrees[v] for v in ones) % 2)
        self.same(Web(2, [(0, 1, MOST)]).crossing(ones=[0], others=[1]), MOST)

    def test_a_web_is_not_iterated(self):
        with self.assertRaises(TypeError):
            list(Web(2, [(0, 1, 1)]))


if __name__ == "__main__":
    unittest.main()
