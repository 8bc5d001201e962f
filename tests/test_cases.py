"""[3], [4], [9], [11], [12], [63], [64]: cases."""

import inspect
import itertools
import unittest

from contentties import cases as cases_file
from contentties.cases import ceiling, is_tree, leaves, some
from contentties.drafts import Draft
from contentties.errors import TooMany
from contentties.lots import is_choice, is_lots, is_row
from contentties.shapes import complete, line, moved, renamed, ring
from contentties.wants import Want
from contentties.webs import Web
from tests.helpers import (
    NO_INTEGERS, Agreeing, Case, granted, kept_web, plain_excess, plain_lots, plain_pieces, random_wants, random_web,
    rows_from, seeded,
)

MOST = 10 ** 9
FAR = 10 ** 12
GAP = Want(0, 3)
STAR, WANTS = Web(4, [(0, 1, 1), (0, 2, 1), (0, 3, 1)]), (GAP, Want(1), Want(1), Want(0))
TREE = ("part", 0, Want(0), Want(3), ("lots", (0,), (1, 2)), ("lots", (1, 2, 3), (0,)))
MANY_BLOCKS = Want(*range(0, 117, 3))


def plain_ceiling(web, wants, lots):
    """The ceiling, word by word as the document tells it."""
    s, t = lots
    total = sum(wants[v].high for v in s)
    for v in t:
        total += web.degrees[v] - sum(web[v, w] for w in s) - wants[v].low
    for piece in plain_pieces(web, lots):
        if not any(wants[v].evens and wants[v].odds for v in piece):
            ties = sum(web[v, w] for v in piece for w in t)
            total -= (sum(wants[v].high for v in piece) + ties) % 2
    return total


def plain_is_tree(web, wants, tree):
    """Whether what some has returned is a tree, by the definition."""
    if tree[0] == "lots":
        return len(tree) == 3 and is_lots(web, tree[1:]) and plain_ceiling(web, wants, tree[1:]) < 0
    name, place, one, other, first, second = tree
    right = name == "part" and 0 <= place < web.size and bool(one) and bool(other) and not one & other
    return right and (one | other) == wants[place] and all(
        plain_is_tree(web, (*wants[:place], want, *wants[place + 1:]), below)
        for want, below in ((one, first), (other, second)))


class Interface(Case):
    def test_names_and_arguments(self):
        for name, arguments in {"ceiling": ["web", "wants", "lots"], "some": ["web", "wants"],
                                "is_tree": ["web", "wants", "thing"], "leaves": ["tree"]}.items():
            call = getattr(cases_file, name)
            self.assertEqual(list(inspect.signature(call).parameters), arguments)
            self.assertEqual(call.__module__, "contentties.cases")

    def test_example(self):
        self.same([some(STAR, WANTS)[0], is_tree(STAR, WANTS, TREE), leaves(TREE), is_tree(STAR, WANTS, TREE[4])],
                  ["none", True, 2, False])
        self.same([ceiling(STAR, WANTS, ((0,), (1, 2))), ceiling(STAR, WANTS, ((1, 2, 3), (0,)))], [1, 2])


class Ceiling(Case):
    def test_small_webs(self):
        rng = seeded(150)
        for size, most, times in ((0, 0, 1), (1, 0, 8), (2, 4, 25), (3, 3, 40), (4, 2, 25), (5, 2, 6)):
            for _ in range(times):
                web = random_web(rng, size, most, 0.4)
                wants = random_wants(rng, web, rng.choice((1, 2, 3)), 2)
                rows = rows_from(wants)
                for lots in plain_lots(size):
                    found = ceiling(web, wants, lots)
                    self.same(found, plain_ceiling(web, wants, lots))
                    # No row from wants has a greater excess; one row alone has just this.
                    most_of_all = max(plain_excess(web, row, lots) for row in rows[:20])
                    self.assertLessEqual(most_of_all, found)
                    if len(rows) == 1:
                        self.same(found, most_of_all)

    def test_large_webs_and_wants(self):
        wide = Want.between(-MOST, MOST)
        full = complete(60, 1)
        self.same(ceiling(full, (wide,) * 60, ((), ())), 0)
        self.same(ceiling(full, (Want(1),) * 59 + (Want(2),), ((), ())), -1)
        self.same(ceiling(full, (Want(1),) * 59 + (wide,), ((), ())), 0)
        self.same(ceiling(Web(60), (Want.stepped(1, MOST),) * 60, ((), ())), -60)
        self.same(ceiling(full, (wide,) * 60, (tuple(range(30)), tuple(range(30, 60)))), 60 * MOST + 30 * 29)
        self.same(ceiling(full, (Want(3),) * 60, ((0,), (1, 2))), 3 + 2 * (58 - 3) - 1)
        self.same(ceiling(complete(3, MOST), (Want(0) + FAR, Want(0) - FAR, GAP), ((0,), (1,))), FAR + MOST + FAR)
        rng = seeded(151)
        for _ in range(5):
            web = random_web(rng, 60, MOST // 60, 0.95)
            wants = random_wants(rng, web, 2)
            marks = [rng.choice((0, 0, 1, 2)) for _ in range(60)]
            lots = (tuple(v for v in range(60) if marks[v] == 1), tuple(v for v in range(60) if marks[v] == 2))
            self.same(ceiling(web, wants, lots), plain_ceiling(web, wants, lots))

    def test_each_piece(self):
        web = Web(5, [(0, 1, 1), (2, 3, 1), (3, 4, 2)])
        wants = (Want(1, 3), Want(0, 2), Want(1), Want(0), Want(5))
        for other, expected in ((Want(5), -1), (Want(4), -2), (Want(5, 9), -1), (Want(5, 8), -1), (Want(4, 8), -2)):
            self.same(ceiling(web, (*wants[:4], other), ((), ())), expected)
        self.same(ceiling(web, wants, ((), (3,))), 3 - 0 - 1 - 0 - 1)
        self.same(ceiling(web, wants, ((3,), ())), 0 - 1 - 1 - 1)


class Some(Case):
    def told(self, web, wants):
        """The row, the choice or the tree is right; whether there is a row is returned."""
        found = some(web, wants)
        self.assertIs(type(found), tuple)
        if found[0] == "row":
            _, row, kept = found
            self.truth(is_row(web, row), True)
            self.assertTrue(all(item in want for item, want in zip(row, wants)))
            self.truth(is_choice(web, row, kept), True)
            return True
        name, tree = found
        self.same(name, "none")
        self.truth(plain_is_tree(web, wants, tree), True)
        self.truth(is_tree(web, wants, tree), True)
        parts = 1
        for want in wants:
            parts = parts * len(want.blocks())
        self.assertLessEqual(leaves(tree), max(parts, 1))
        return False

    def test_small_webs(self):
        rng = seeded(152)
        answers = []
        for size, most, times in ((0, 0, 1), (1, 0, 10), (2, 6, 60), (3, 4, 60), (4, 2, 25), (5, 1, 8)):
            for _ in range(times):
                web = random_web(rng, size, most, 0.3)
                wants = random_wants(rng, web, 3 if size < 4 else 2, rng.choice((0, 1, 2)))
                if count_of(wants) > 32:
                    continue
                rows = granted(web)
                expected = any(row in rows for row in rows_from(wants))
                answers.append(expected)
                self.truth(self.told(web, wants), expected)
        self.assertGreater(min(answers.count(True), answers.count(False)), 40)

    def test_blocks_of_many_integers(self):
        rng = seeded(153)
        answers = []
        for _ in range(80):
            size = rng.randint(2, 4)
            web = random_web(rng, size, 3, 0.3)
            wants = []
            for degree in web.degrees:
                low = rng.randint(-2, degree + 2)
                wants.append(rng.choice((Want.between(low, low + 3), Want.stepped(low, low + 4),
                                         Want.between(low, low + 1) | Want.stepped(low + 4, low + 6))))
            rows = granted(web)
            expected = any(row in rows for row in rows_from(wants))
            answers.append(expected)
            self.truth(self.told(web, tuple(wants)), expected)
        self.assertGreater(min(answers.count(True), answers.count(False)), 10)

    def test_one_block_each(self):
        # Then lots alone show that there is no row.
        for web, wants in ((STAR, (Want(0), Want(1), Want(1), Want(0))), (Web(1), (Want(3, 5),)),
                           (line(3, 2), (Want.between(3, 9), Want(0, 1), Want(0))),
                           (complete(3, 5), (Want(0, 2, 4), Want(1), Want.stepped(-4, 10)))):
            name, tree = some(web, wants)
            self.same((name, tree[0]), ("none", "lots"))
            self.truth(plain_ceiling(web, wants, tree[1:]) < 0, True)

    def test_no_lots_for_several_blocks(self):
        self.truth(self.told(STAR, WANTS), False)
        for lots in plain_lots(4):
            self.assertGreaterEqual(ceiling(STAR, WANTS, lots), 0)
        self.assertGreaterEqual(leaves(some(STAR, WANTS)[1]), 2)

    def test_without_places_and_of_one(self):
        self.same(some(Web(0), ()), ("row", (), Web(0)))
        self.same(some(Web(1), (Want(-5, 0, 7),)), ("row", (0,), Web(1)))
        for want in (Want(1), Want(-2, 5), Want(2, 4, 9), Want.between(1, MOST), Want.between(-MOST, -1)):
            self.truth(self.told(Web(1), (want,)), False)
        self.same(some(Web(5), (GAP,) * 5), ("row", (0,) * 5, Web(5)))

    def test_two_places_with_gaps(self):
        for number in range(8):
            web = Web(2, [(0, 1, number)])
            for ones, others in itertools.product(([0, 5], [1, 4, 7], [2, 3, 6], [6], [-1, 8]), repeat=2):
                expected = any(x in others and 0 <= x <= number for x in ones)
                self.truth(self.told(web, (Want(*ones), Want(*others))), expected)

    def test_large_bundles_and_wide_wants(self):
        full, rng = complete(5, MOST), seeded(154)
        wide = Want.between(-MOST, MOST)
        self.truth(self.told(full, (wide,) * 5), True)
        self.truth(self.told(full, (wide + FAR,) + (wide,) * 4), False)
        self.truth(self.told(full, (Want.stepped(1, MOST),) * 5), False)
        self.truth(self.told(full, (Want.stepped(1, MOST),) * 4 + (wide,)), True)
        self.truth(self.told(full, (Want(4 * (MOST // 4)) + 3 * MOST, wide, wide, wide, wide)), True)
        self.truth(self.told(full, (Want(MOST) + 3 * MOST, wide, wide, wide, wide - 1)), False)
        self.truth(self.told(line(3, MOST), (Want(7, MOST), Want.between(-MOST, 6) | wide + 2 * MOST + 7, wide)), True)
        for _ in range(10):
            web = random_web(rng, rng.randint(2, 5), MOST, 0.1)
            row = kept_web(rng, web).degrees
            blocks = [Want.stepped(0, rng.choice((0, 6, MOST))) + (x - 2 * rng.randint(0, 3)) for x in row]
            wants = tuple(block | (Want(0) - rng.randint(1, FAR)) for block in blocks)
            found = self.told(web, wants)
            if all(x in block for x, block in zip(row, blocks)):
                self.truth(found, True)

    def test_a_hidden_row(self):
        # The wants are scattered about a granted row: it, or another one, is found.
        rng = seeded(155)
        for _ in range(20):
            size = rng.randint(2, 5)
            web = random_web(rng, size, rng.choice((5, MOST)), 0.1)
            row = kept_web(rng, web).degrees
            wants = tuple(Want(0) + x for x in row)
            for place in rng.sample(range(size), min(size, 3)):
                more = Want(*[rng.randint(-9, 9) for _ in range(2)]) + row[place]
                wants = (*wants[:place], wants[place] | more, *wants[place + 1:])
            if count_of(wants) <= 32:
                self.truth(self.told(web, wants), True)

    def test_products_of_blocks(self):
        two = Want(0, 3)
        self.truth(self.told(complete(5, 2), (two,) * 5), True)
        odd = Want(1, 4)
        self.truth(self.told(complete(5, 1), (Want(7, 10),) * 5), False)
        self.truth(self.told(Web(5), (odd,) * 5), False)
        many = Want(*range(1, 94, 3))
        self.same(len(many.blocks()), 31)
        self.truth(self.told(Web(1), (many | Want(97),)), False)
        self.fails(TooMany, {"limit": 32}, some, Web(1), (many | Want(97, 100),))
        self.fails(TooMany, {"limit": 32}, some, Web(1), (Want(0) | many + 1 | Want(97, 100),))
        self.fails(TooMany, {"limit": 32}, some, complete(2, 3), (Want(*range(0, 33, 3)), Want(0, 3, 6)))
        self.truth(self.told(complete(2, 3), (Want(*range(5, 29, 3)), Want(5, 8, 11, 14))), False)
        self.fails(TooMany, {"limit": 32}, some, complete(5, 2), (two,) * 4 + (Want(0, 3, 6),))
        # Each block may have any number of integers.
        self.truth(self.told(complete(5, 2), (Want.between(0, MOST),) * 5), True)

    def test_trees_of_32_leaves(self):
        # Every one of the products needs lots of its own.
        web, wants = complete(5, 3), (Want(13, 16),) * 5
        self.truth(self.told(web, wants), False)
        rng = seeded(156)
        most = 0
        for _ in range(60):
            web = random_web(rng, 5, 3, 0.3)
            wants = tuple(Want(rng.randint(0, 3), rng.randint(4, 9)) for _ in range(5))
            if count_of(wants) <= 32 and not self.told(web, wants):
                most = max(most, leaves(some(web, wants)[1]))
        self.assertGreater(most, 6)

    def test_order_of_errors(self):
        for size in (6, 60):
            for want in (Want(0), GAP, MANY_BLOCKS):
                self.fails(TooMany, {"limit": 5}, some, complete(size, 1), (want,) * size)
        self.fails(TooMany, {"limit": 32}, some, complete(5, 1), (MANY_BLOCKS,) * 5)
        self.truth(self.told(complete(5, 1), (Want(4),) * 5), True)

    def test_mirrors_more_ties_and_other_names(self):
        rng = seeded(157)
        for _ in range(25):
            web, more = random_web(rng, 4, 3, 0.3), random_web(rng, 4, 2)
            wants = random_wants(rng, web, 2, 1)
            found = self.told(web, wants)
            self.truth(self.told(web, tuple(d - want for d, want in zip(web.degrees, wants))), found)
            self.truth(self.told(web + more, wants) or not found, True)
            order = tuple(rng.sample(range(4), 4))
            self.truth(self.told(renamed(web, order), moved(wants, order)), found)


def count_of(wants):
    """The product of the numbers of blocks."""
    found = 1
    for want in wants:
        found = found * len(want.blocks())
    return found


class IsTree(Case):
    def is_one(self, thing, web=STAR, wants=WANTS):
        return is_tree(web, wants, thing)

    def test_any_form(self):
        self.truth(self.is_one(TREE), True)
        self.truth(self.is_one(("part", 0, Want(3), Want(0), TREE[5], TREE[4])), True)
        # A part that cuts a block, and one more than is needed.
        web, wants = line(3, 2), (Want.between(3, 9), Want(0, 1), Want(0))
        leaf = ("lots", (1, 2), (0,))
        self.truth(is_tree(web, wants, leaf), plain_ceiling(web, wants, leaf[1:]) < 0)
        right = [lots for lots in plain_lots(3) if plain_ceiling(web, wants, lots) < 0]
        for lots in plain_lots(3):
            self.truth(is_tree(web, wants, ("lots", *lots)), lots in right)
        leaf = ("lots", *right[0])
        cut = ("part", 0, Want.stepped(3, 9), Want.stepped(4, 8), leaf, leaf)
        self.truth(plain_is_tree(web, wants, cut), is_tree(web, wants, cut))
        self.truth(is_tree(web, wants, ("part", 1, Want(1), Want(0), cut, leaf)), True)

    def test_other_things(self):
        for thing in NO_INTEGERS + (0, list(TREE), TREE[:5], TREE + (TREE[4],), (TREE,), [TREE], TREE[4], TREE[5],
                                    Agreeing(), ("lots",), ("lots", (0,)), ("part",), ("lots", (), ()), Draft(STAR),
                                    ("lots", (0,), (1, 2), ()), iter(TREE), dict(enumerate(TREE))):
            self.truth(self.is_one(thing), False, repr(thing))
        for value in NO_INTEGERS + (0, 1, Agreeing(), list(TREE[4]), Want(3), Want(0), "part", "lots", TREE, TREE[4]):
            for at in range(6):
                if not (at == 2 and value == Want(0) or at == 3 and value == Want(3) or at == 4 and value is TREE[4]
                        or at == 0 and isinstance(value, str) and value == "part"
                        or at == 1 and type(value) is int and value == 0) or isinstance(value, Agreeing):
                    self.truth(self.is_one(TREE[:at] + (value,) + TREE[at + 1:]), False, f"{at} {value!r}")

    def test_wrong_lots(self):
        web, wants = Web(3), (Want(1), Want(1), Want(0))
        for lots in plain_lots(3):
            self.truth(is_tree(web, wants, ("lots", *lots)), plain_ceiling(web, wants, lots) < 0)
        good = ("lots", (), (0, 1))
        self.truth(is_tree(web, wants, good), True)
        for s, t in (((), [0, 1]), ([], (0, 1)), ((), (1, 0)), ((), (0, True)), ((), (False, 1)), ((), (0, 1, 1)),
                     ((), (0, 1, 3)), ((0,), (0, 1)), ((-1,), (0, 1)), (None, (0, 1)), ((), ("0", 1)), ((), Agreeing()),
                     ((), {0: 1}), ((2, 2), (0, 1))):
            self.truth(is_tree(web, wants, ("lots", s, t)), False, f"{s} {t}")
        for name in ("Lots", "lots ", "", "part", b"lots", None, 0, ("lots",), Agreeing(), True):
            self.truth(is_tree(web, wants, (name, (), (0, 1))), False, repr(name))

    def test_wrong_parts(self):
        web, wants = Web(2), (Want(1, 2, 5), Want(3, 4))
        leaf = ("lots", (), (0, 1))
        self.truth(is_tree(web, wants, leaf), True)
        for place, one, other, expected in (
                (0, Want(1), Want(2, 5), True), (0, Want(1, 5), Want(2), True), (1, Want(4), Want(3), True),
                (0, Want(1, 2), Want(2, 5), False), (0, Want(1), Want(5), False), (0, Want(1, 2, 5), Want(), False),
                (0, Want(), Want(1, 2, 5), False), (0, Want(1), Want(2, 5, 6), False), (1, Want(1), Want(2, 5), False),
                (2, Want(1), Want(2, 5), False), (-2, Want(1), Want(2, 5), False), (False, Want(1), Want(2, 5), False),
                (True, Want(4), Want(3), False), ("0", Want(1), Want(2, 5), False), (None, Want(1), Want(2, 5), False),
                (0, (1,), Want(2, 5), False), (0, Want(1), (2, 5), False), (0, [1], [2, 5], False),
                (0, Agreeing(), Agreeing(), False), (0, 1, Want(2, 5), False)):
            self.truth(is_tree(web, wants, ("part", place, one, other, leaf, leaf)), expected, f"{place} {one} {other}")
        part = ("part", 0, Want(1), Want(2, 5), leaf, leaf)
        for name in ("Part", "lots", "", b"part", None, 1, Agreeing()):
            self.truth(is_tree(web, wants, (name, *part[1:])), False, repr(name))
        for at in (4, 5):
            for below in (None, leaf[:2], "lots", part, ("lots", (1,), (0,)), list(leaf), ()):
                self.truth(is_tree(web, wants, part[:at] + (below,) + part[at + 1:]), below is leaf, f"{at} {below!r}")

    def test_the_wants_of_each_branch(self):
        # Lots that are right for one branch alone.
        web, wants = Web(2, [(0, 1, 5)]), (Want(0, 9), Want(3))
        low, high = ("lots", (0,), (1,)), ("lots", (1,), (0,))
        self.truth(plain_ceiling(web, (Want(0), Want(3)), low[1:]) < 0, True)
        self.truth(plain_ceiling(web, (Want(9), Want(3)), high[1:]) < 0, True)
        for first, second, expected in ((low, high, True), (high, low, False), (low, low, False), (high, high, False)):
            self.truth(is_tree(web, wants, ("part", 0, Want(0), Want(9), first, second)), expected)
            self.truth(is_tree(web, wants, ("part", 0, Want(9), Want(0), second, first)), expected)

    def test_deep_trees(self):
        # Integer by integer, as deep as there are integers.
        many = 3000
        leaf = ("lots", (), (0,))
        tree = leaf
        for x in range(many, 1, -1):
            tree = ("part", 0, Want(x - 1), Want.between(x, many), leaf, tree)
        self.truth(is_tree(Web(1), (Want.between(1, many),), tree), True)
        self.truth(is_tree(Web(1), (Want.between(1, many + 1),), tree), False)
        self.truth(is_tree(Web(1), (Want.between(0, many),), tree), False)
        self.same(leaves(tree), many)

    def test_webs_of_sixty_places(self):
        web, wants = ring(60, 1), (Want(3, 8),) * 60
        places = tuple(range(60))
        leaf = ("lots", (), places)
        self.truth(plain_ceiling(web, wants, leaf[1:]) < 0, True)
        self.truth(is_tree(web, wants, leaf), True)
        self.truth(is_tree(web, wants, ("part", 59, Want(3), Want(8), leaf, leaf)), True)
        self.truth(is_tree(web, wants, ("part", 60, Want(3), Want(8), leaf, leaf)), False)
        self.truth(is_tree(web, (Want(2),) * 60, leaf), False)
        self.truth(is_tree(Web(0), (), ("lots", (), ())), False)

    def test_what_some_returns_with_parts_exchanged(self):
        rng = seeded(158)
        seen = 0
        while seen < 12:
            web = random_web(rng, 4, 3, 0.3)
            wants = random_wants(rng, web, 2, 0)
            found = some(web, wants) if count_of(wants) <= 32 else ("row",)
            if found[0] == "none" and found[1][0] == "part":
                seen = seen + 1
                tree = found[1]
                self.truth(is_tree(web, wants, tree), True)
                changed = (*tree[:2], tree[3], tree[2], *tree[4:])
                self.truth(is_tree(web, wants, changed), plain_is_tree(web, wants, changed))
                changed = (*tree[:4], tree[5], tree[4])
                self.truth(is_tree(web, wants, changed), plain_is_tree(web, wants, changed))
                self.truth(is_tree(web, wants, tree[:5]), False)
                self.truth(is_tree(web, (wants[0] + 1, *wants[1:]), tree),
                           plain_is_tree(web, (wants[0] + 1, *wants[1:]), tree))


class Leaves(Case):
    def test_leaves(self):
        leaf = ("lots", (), ())
        two = ("part", 0, Want(0), Want(3), leaf, leaf)
        self.same(leaves(leaf), 1)
        self.same(leaves(TREE), 2)
        self.same(leaves(("part", 1, Want(0), Want(3), two, leaf)), 3)
        self.same(leaves(("part", 1, Want(0), Want(3), leaf, two)), 3)
        self.same(leaves(("part", 1, Want(0), Want(3), two, two)), 4)


if __name__ == "__main__":
    unittest.main()
