"""[3], [12], [32]: shapes."""

import inspect
import itertools
import unittest

from contentties import shapes
from contentties.errors import TooMany
from contentties.shapes import beside, complete, line, moved, renamed, ring
from contentties.wants import Want
from contentties.webs import Web
from tests.helpers import Case, pairs_of, random_web, seeded

MOST = 10 ** 9


class Shapes(Case):
    def test_interface(self):
        for name, arguments in {
            "complete": ["size", "number"], "line": ["size", "number"], "ring": ["size", "number"],
            "beside": ["one", "other"], "renamed": ["web", "order"], "moved": ["row", "order"],
        }.items():
            call = getattr(shapes, name)
            self.assertEqual(list(inspect.signature(call).parameters), arguments)
            self.assertEqual(call.__module__, "contentties.shapes")

    def test_every_bundle(self):
        for size in (0, 1, 2, 3, 4, 7):
            for number in (0, 1, 5, MOST):
                some, along = complete(size, number), line(size, number)
                self.same((some.size, along.size), (size, size))
                for u, v in pairs_of(size):
                    self.same(some[u, v], number)
                    self.same(along[u, v], number if v == u + 1 else 0)

    def test_ring(self):
        for size in (3, 4, 5, 9):
            for number in (0, 1, MOST):
                web = ring(size, number)
                for u, v in pairs_of(size):
                    self.same(web[u, v], number if v - u in (1, size - 1) else 0)
                self.same(web.degrees, (2 * number,) * size)
        self.assertEqual(ring(3, 2), complete(3, 2))

    def test_sixty_places(self):
        self.same(complete(60, 2).degrees, (118,) * 60)
        self.same(line(60, 2).total, 118)
        self.same(ring(60, MOST).total, 60 * MOST)

    def test_examples_of_form(self):
        self.same(line(3, 2).ties, ((0, 1, 2), (1, 2, 2)))
        self.same(ring(4, 1).ties, ((0, 1, 1), (0, 3, 1), (1, 2, 1), (2, 3, 1)))
        self.same(complete(3, 1).ties, ((0, 1, 1), (0, 2, 1), (1, 2, 1)))


class Beside(Case):
    def test_ties(self):
        one, other = Web(2, [(0, 1, 3)]), Web(3, [(0, 2, 5)])
        self.same((beside(one, other).size, beside(one, other).ties), (5, ((0, 1, 3), (2, 4, 5))))
        self.same(beside(other, one).ties, ((0, 2, 5), (3, 4, 3)))
        self.same((one.ties, other.ties), (((0, 1, 3),), ((0, 2, 5),)))

    def test_random(self):
        rng = seeded(40)
        for _ in range(100):
            one = random_web(rng, rng.randint(0, 5), 4)
            other = random_web(rng, rng.randint(0, 5), 4)
            both = beside(one, other)
            self.same(both.degrees, one.degrees + other.degrees)
            self.same(both.crossing(range(one.size), range(one.size, both.size)), 0)

    def test_edges(self):
        self.assertEqual(beside(Web(0), Web(0)), Web(0))
        self.assertEqual(beside(Web(0), line(3, 1)), line(3, 1))
        self.assertEqual(beside(line(3, 1), Web(0)), line(3, 1))
        self.same(beside(complete(60, 1), Web(0)).size, 60)
        self.same(beside(line(30, 1), line(30, 1)).size, 60)

    def test_too_many(self):
        self.fails(TooMany, {"limit": 60}, beside, Web(60), Web(1))
        self.fails(TooMany, {"limit": 60}, beside, Web(1), Web(60))
        self.fails(TooMany, {"limit": 60}, beside, line(31, 1), line(30, 1))
        self.fails(TooMany, {"limit": 60}, beside, Web(60), Web(60))


class Names(Case):
    def test_renamed_and_moved(self):
        web = Web(3, [(0, 1, 2), (1, 2, 1)])
        self.same(renamed(web, (1, 2, 0)).ties, ((0, 2, 1), (1, 2, 2)))
        self.same(moved(("a", "b", "c"), (1, 2, 0)), ("c", "a", "b"))

    def test_every_order(self):
        rng = seeded(41)
        for size in range(5):
            web = random_web(rng, size, 6)
            for order in itertools.permutations(range(size)):
                other = renamed(web, order)
                for u, v in pairs_of(size):
                    self.same(other[order[u], order[v]], web[u, v])
                row = tuple(rng.randint(-9, 9) for _ in range(size))
                put = moved(row, order)
                self.assertIs(type(put), tuple)
                for v in range(size):
                    self.same(put[order[v]], row[v])
                self.same(moved(web.degrees, order), other.degrees)
                back = tuple(order.index(v) for v in range(size))
                self.assertEqual(renamed(other, back), web)
                self.same(moved(put, back), row)

    def test_moved_takes_any_items(self):
        items = (Want(1), None, [1], "x", True)
        put = moved(items, (4, 3, 2, 1, 0))
        for v in range(5):
            self.assertIs(put[4 - v], items[v])
        self.same(moved((), ()), ())

    def test_sixty_places(self):
        order = tuple((7 * v + 3) % 60 for v in range(60))
        self.assertEqual(renamed(complete(60, 1), order), complete(60, 1))
        self.same(renamed(line(60, 1), order)[order[10], order[11]], 1)


if __name__ == "__main__":
    unittest.main()
