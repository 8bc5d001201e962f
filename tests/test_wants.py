"""[2], [3], [4], [7], [21]: Want."""

import inspect
import itertools
import unittest

from contentties.errors import TooMany, Wrong
from contentties.wants import Want
from tests.helpers import NO_INTEGERS, Agreeing, Case, members, same, seeded, want_of

BOUND = 10 ** 9
WINDOW = range(-4, 6)


def subsets():
    """Every set of integers out of a small window."""
    for many in range(len(WINDOW) + 1):
        for numbers in itertools.combinations(WINDOW, many):
            yield numbers


def plain_runs(numbers, parity):
    """The longest runs of a parity, in the way that the document describes them."""
    runs = []
    for x in sorted(x for x in numbers if x % 2 == parity):
        if runs and runs[-1][1] == x - 2:
            runs[-1] = (runs[-1][0], x)
        else:
            runs.append((x, x))
    return tuple(runs)


def plain_blocks(numbers):
    """The blocks, as ascending lists of integers."""
    stretches, alone = [], []
    for x in sorted(numbers):
        if x - 1 in numbers:
            stretches[-1].append(x)
        elif x + 1 in numbers:
            stretches.append([x])
        else:
            alone.append(x)
    runs = [list(range(low, high + 1, 2)) for parity in (0, 1) for low, high in plain_runs(alone, parity)]
    return sorted(stretches + runs)


def big_want():
    """A Want of 5 * 10 ** 9 integers in 200 runs."""
    runs = []
    for at in range(100):
        piece = Want.between(1, 5 * 10 ** 7) + (at * (5 * 10 ** 7 + 10) - 2 * 10 ** 9)
        runs.append(piece)
    big = Want()
    for piece in runs:
        big = big | piece
    return big


class Made(Case):
    def test_example(self):
        want = Want(3, 0, 4, 5, 3)
        self.same([str(want), want.evens, want.odds, want.corners, want.many, str(7 - want)],
                  ["0, 3..5/2, 4", ((0, 0), (4, 4)), ((3, 5),), (0, 3, 4, 5), 4, "2..4/2, 3, 7"])
        self.same([[str(block) for block in want.blocks()], str(Want.between(0, 4)), str(Want.stepped(1, 6)),
                   str(want & Want.stepped(0, 8))],
                  [["0", "3..5/2, 4"], "0..4/2, 1..3/2", "1..5/2", "0, 4"])

    def test_empty(self):
        want = Want()
        self.same((want.evens, want.odds, want.low, want.high, want.many, want.corners), ((), (), None, None, 0, ()))
        self.same((want.least(0), want.least(1), want.greatest(0), want.greatest(1)), (None,) * 4)
        self.same((want.first(0), want.first(3), want.blocks(), str(want), bool(want)), ([], [], [], "none", False))
        self.same((-want == want, want + 3 == want, 3 - want == want), (True, True, True))
        self.same((want.within(want), want.within(Want(1)), Want(1).within(want)), (True, True, False))

    def test_every_property_of_small_sets(self):
        for numbers in subsets():
            want = Want(*numbers[::-1])
            self.same(want.evens, plain_runs(numbers, 0))
            self.same(want.odds, plain_runs(numbers, 1))
            self.same(want.low, min(numbers, default=None))
            self.same(want.high, max(numbers, default=None))
            self.same(want.many, len(numbers))
            ends = set()
            for parity in (0, 1):
                some = [x for x in numbers if x % 2 == parity]
                self.same(want.least(parity), min(some, default=None))
                self.same(want.greatest(parity), max(some, default=None))
                ends.update(some[:1] + some[-1:])
            self.same(want.corners, tuple(sorted(ends)))
            self.truth(bool(want), numbers != ())

    def test_attributes_are_set_on_the_object(self):
        names = {"evens", "odds", "low", "high", "many", "corners"}
        self.assertLessEqual(names, set(vars(Want(1))))
        self.assertLessEqual(names, set(vars(Want.between(1, 2) | Want(5))))

    def test_each_method_stands_in_the_class(self):
        for name in ("between", "stepped", "least", "greatest", "within", "without", "first", "blocks", "__or__",
                     "__and__", "__xor__", "__add__", "__radd__", "__sub__", "__rsub__", "__neg__", "__contains__",
                     "__bool__", "__eq__", "__str__"):
            self.assertIn(name, vars(Want))
        self.assertEqual(list(inspect.signature(Want.between).parameters), ["low", "high"])
        self.assertEqual(list(inspect.signature(Want.stepped).parameters), ["low", "high"])
        self.assertEqual(list(inspect.signature(Want.least).parameters), ["self", "parity"])
        self.assertEqual(list(inspect.signature(Want.greatest).parameters), ["self", "parity"])
        self.assertEqual(list(inspect.signature(Want.within).parameters), ["self", "other"])
        self.assertEqual(list(inspect.signature(Want.without).parameters), ["self", "other"])
        self.assertEqual(list(inspect.signature(Want.first).parameters), ["self", "count"])

    def test_arguments_by_name(self):
        self.assertEqual(Want.between(low=0, high=2), Want(0, 1, 2))
        self.assertEqual(Want.stepped(high=2, low=0), Want(0, 2))
        self.same(Want(1, 2).least(parity=1), 1)
        self.same(Want(1, 2).greatest(parity=0), 2)
        self.same(Want(1).within(other=Want(1)), True)
        self.assertEqual(Want(1).without(other=Want(1)), Want())
        self.same(Want(1, 2).first(count=1), [1])

    def test_bounds(self):
        want = Want(BOUND, -BOUND)
        self.same((want.low, want.high, want.many), (-BOUND, BOUND, 2))
        self.fails(Wrong, {"place": 0}, Want, BOUND + 1)
        self.fails(Wrong, {"place": 1}, Want, 0, -BOUND - 1)
        self.fails(Wrong, {"place": 0}, Want, 10 ** 60)

    def test_forty_and_more(self):
        self.same(Want(*range(40)).many, 40)
        self.same(Want(*range(40), 7).many, 40)
        self.same(Want(*[5] * 41).many, 1)
        self.fails(TooMany, {"limit": 40}, Want, *range(41))
        self.fails(TooMany, {"limit": 40}, Want, *range(0, 82, 2))
        self.fails(Wrong, {"place": 40}, Want, *range(40), None)
        self.fails(Wrong, {"place": 40}, Want, *range(40), BOUND + 1)

    def test_wrong_kinds(self):
        for value in NO_INTEGERS:
            self.fails(Wrong, {"place": 0}, Want, value)
            self.fails(Wrong, {"place": 1}, Want, 1, value)
            self.fails(Wrong, {"place": 2}, Want, 5, 5, value, None, BOUND + 1)
            self.fails(Wrong, {"place": 0}, Want, value, value)


class Ranges(Case):
    def test_between(self):
        for low, high in itertools.product(WINDOW, repeat=2):
            want = Want.between(low, high)
            self.assertEqual(want, want_of(range(low, high + 1)))
            self.same(members(want), list(range(low, high + 1)))

    def test_stepped(self):
        for low, high in itertools.product(WINDOW, repeat=2):
            want = Want.stepped(low, high)
            self.assertEqual(want, want_of(range(low, high + 1, 2)))
            self.same(members(want), list(range(low, high + 1, 2)))

    def test_low_above_high_is_empty(self):
        for made in (Want.between, Want.stepped):
            self.assertEqual(made(3, 2), Want())
            self.assertEqual(made(BOUND, -BOUND), Want())
            self.same(made(3, 3).evens + made(3, 3).odds, ((3, 3),))

    def test_whole_range(self):
        want = Want.between(-BOUND, BOUND)
        self.same((want.evens, want.odds), (((-BOUND, BOUND),), ((-BOUND + 1, BOUND - 1),)))
        self.same((want.many, want.corners), (2 * BOUND + 1, (-BOUND, -BOUND + 1, BOUND - 1, BOUND)))
        self.same(Want.stepped(-BOUND + 1, BOUND).odds, ((-BOUND + 1, BOUND - 1),))

    def test_wrong_kinds(self):
        for made in (Want.between, Want.stepped):
            for value in (*NO_INTEGERS, BOUND + 1, -BOUND - 1, 10 ** 60):
                self.fails(Wrong, {"place": 0}, made, value, 0)
                self.fails(Wrong, {"place": 1}, made, 0, value)
                self.fails(Wrong, {"place": 0}, made, value, None)


class Methods(Case):
    def test_first(self):
        for numbers in subsets():
            want = Want(*numbers)
            for count in (0, 1, 2, 3, 7, 10, 1000):
                self.same(want.first(count), sorted(numbers)[:count])

    def test_first_of_many(self):
        want = Want.between(-BOUND, BOUND)
        self.same(want.first(1000), list(range(-BOUND, -BOUND + 1000)))
        self.same(Want.stepped(1, BOUND).first(3), [1, 3, 5])
        self.same(Want.stepped(0, BOUND).first(1000), list(range(0, 2000, 2)))
        self.same((Want(-7) | Want.stepped(0, BOUND)).first(3), [-7, 0, 2])

    def test_first_is_a_new_list(self):
        want = Want(1, 2)
        want.first(2).append(9)
        self.same(want.first(2), [1, 2])

    def test_blocks(self):
        for numbers in subsets():
            want = Want(*numbers)
            blocks = want.blocks()
            self.assertIs(type(blocks), list)
            self.same([members(block) for block in blocks], plain_blocks(numbers))
            self.assertTrue(all(isinstance(block, Want) and block for block in blocks))

    def test_blocks_of_edges(self):
        self.same([str(block) for block in Want(0, 2, 4, 6, 7).blocks()], ["0..4/2", "6, 7"])
        self.same([str(block) for block in Want(0, 2, 5, 7).blocks()], ["0..2/2", "5..7/2"])
        self.same([str(block) for block in Want(1).blocks()], ["1"])
        whole = Want.between(-BOUND, BOUND)
        self.assertEqual(whole.blocks(), [whole])

    def test_blocks_are_a_new_list(self):
        want = Want(1, 2, 4)
        want.blocks().clear()
        self.same(len(want.blocks()), 2)

    def test_within_and_without(self):
        rng = seeded(21)
        for _ in range(2000):
            one, other = [{x for x in WINDOW if rng.random() < 0.5} for _ in range(2)]
            self.same(members(Want(*one).without(Want(*other))), sorted(one - other))
            self.truth(Want(*one).within(Want(*other)), one <= other)
            self.truth(Want(*(one & other)).within(Want(*other)), True)
        self.truth(Want(1).within(Want.between(0, BOUND)), True)
        self.truth(Want.stepped(0, BOUND).within(Want.stepped(1, BOUND)), False)


class Operators(Case):
    def test_sets(self):
        rng = seeded(22)
        for _ in range(3000):
            one, other = [{x for x in WINDOW if rng.random() < 0.6} for _ in range(2)]
            left, right = Want(*one), Want(*other)
            for made, numbers in ((left | right, one | other), (left & right, one & other), (left ^ right, one ^ other)):
                self.assertIs(type(made), Want)
                self.same((made.evens, made.odds), (plain_runs(numbers, 0), plain_runs(numbers, 1)))
                self.same((made.many, made.low), (len(numbers), min(numbers, default=None)))
            self.same((members(left), members(right)), (sorted(one), sorted(other)))

    def test_moves(self):
        for numbers in itertools.islice(subsets(), 0, None, 7):
            want = Want(*numbers)
            for k in (-3, -2, 0, 1, 4, 10 ** 12, -10 ** 12, 10 ** 12 - 1):
                for moved, expected in ((want + k, [x + k for x in numbers]), (k + want, [x + k for x in numbers]),
                                        (want - k, [x - k for x in numbers]), (k - want, [k - x for x in numbers])):
                    self.same((moved.evens, moved.odds), (plain_runs(expected, 0), plain_runs(expected, 1)))
            self.same(members(-want), sorted(-x for x in numbers))
            self.same(members(want), sorted(numbers))

    def test_moved_beyond_the_numbers_and_back(self):
        want = Want(BOUND, -BOUND)
        self.same((want + 10 ** 12).corners, (10 ** 12 - BOUND, 10 ** 12 + BOUND))
        self.assertEqual((want + 10 ** 12) - 10 ** 12, want)

    def test_operators_take_nothing_else(self):
        want = Want(1, 2)
        for value in (None, True, False, "1", (1,), {1}, Want):
            for call in (lambda: want + value, lambda: value + want, lambda: want - value, lambda: value - want,
                         lambda: want | value, lambda: want & value, lambda: want ^ value):
                with self.assertRaises(TypeError):
                    call()
        for call in (lambda: want | 1, lambda: want & 1, lambda: want ^ 1, lambda: want + want, lambda: want - want):
            with self.assertRaises(TypeError):
                call()
        self.same(members(want), [1, 2])

    def test_in(self):
        for numbers in itertools.islice(subsets(), 0, None, 3):
            want = Want(*numbers)
            for x in range(-7, 9):
                self.truth(x in want, x in numbers)
            for value in NO_INTEGERS:
                self.truth(value in want, False, repr(value))
        self.truth(10 ** 60 in Want.between(-BOUND, BOUND), False)
        self.truth(Agreeing() in Want(1), False)
        self.truth("0" in Want(0), False)

    def test_equal(self):
        rng = seeded(23)
        for _ in range(1000):
            one, other = [{x for x in range(4) if rng.random() < 0.5} for _ in range(2)]
            self.truth(Want(*one) == Want(*other), one == other)
            self.truth(Want(*one) != Want(*other), one != other)
        self.assertEqual(Want(0, 1, 2), Want.between(0, 2))
        self.assertEqual(Want.between(0, 5) & Want.between(4, 9), Want(4, 5))
        self.truth(Want(0) == Want(1), False)
        self.truth(Want(1, 2) == Want(1), False)
        self.truth(Want(1, 2) == Want(2), False)

    def test_equal_to_nothing_else(self):
        for want in (Want(), Want(0), Want(1)):
            for value in (0, 1, None, True, False, "none", "0", (), [], {0}, ((0, 0),), Agreeing()):
                self.truth(want == value, False, repr(value))
                self.truth(want != value, True, repr(value))

    def test_text(self):
        self.same(str(Want(-5)), "-5")
        self.same(str(Want(-4, -2, 3)), "-4..-2/2, 3")
        self.same(str(Want(2, 0, 1, 3, 9)), "0..2/2, 1..3/2, 9")
        for numbers in subsets():
            runs = sorted(plain_runs(numbers, 0) + plain_runs(numbers, 1))
            words = [str(low) if low == high else f"{low}..{high}/2" for low, high in runs]
            self.same(str(Want(*numbers)), ", ".join(words) if words else "none")

    def test_queries_change_nothing(self):
        want = Want(1, 2, 4)
        looks = [(str(want), want.first(9), [str(b) for b in want.blocks()], want.many, -want == want) for _ in range(2)]
        self.assertTrue(same(looks[0], looks[1]))


class Large(Case):
    """No operation lists the integers."""

    def test_big_want(self):
        big = big_want()
        self.same((big.many, len(big.evens) + len(big.odds)), (5 * 10 ** 9, 200))
        self.same(len(big.blocks()), 100)
        self.same(sum(block.many for block in big.blocks()), 5 * 10 ** 9)
        self.same(big.first(1000), list(range(big.low, big.low + 1000)))
        self.truth(big.low in big, True)
        self.truth(big.high + 1 in big, False)
        self.truth(big.within(big), True)
        self.truth(big == big + 0, True)
        self.assertEqual(-(-big), big)
        self.assertEqual(big.without(big), Want())
        self.same((big ^ (big + 1)).many, 200)
        self.same((big & (big + 1)).many, 5 * 10 ** 9 - 100)
        self.same((big | (big + 1)).many, 5 * 10 ** 9 + 100)
        self.same(str(big).count(","), 199)
        self.same(len(big.corners), 4)

    def test_comb(self):
        comb = Want()
        for at in range(5):
            comb = comb | Want(*range(at * 160, (at + 1) * 160, 4))
        self.same((comb.many, len(comb.evens), comb.odds), (200, 200, ()))
        self.same([block.many for block in comb.blocks()], [1] * 200)
        self.same(len((comb | (comb + 1)).blocks()), 200)
        self.same((comb | (comb + 2)).evens, ((0, 798),))


if __name__ == "__main__":
    unittest.main()
