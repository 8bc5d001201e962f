"""[3], [4], [90]: tables."""

import inspect
import unittest

from contentties import tables as tables_file
from contentties.errors import TooMany
from contentties.listing import granted_rows
from contentties.shapes import complete, line
from contentties.tables import added, displeasure, distances, is_tables, squares
from contentties.webs import Web
from tests.helpers import NO_INTEGERS, Agreeing, Case, plain_distance, random_web, seeded

MOST = 10 ** 9
TRIANGLE = Web(3, [(0, 1, 1), (0, 2, 1), (1, 2, 1)])
PATH = line(3, 1)
RIGHT = ((0, 5), (1, 0, 1), (7, -7))


def convex(rng, degree, steep=5):
    """A convex tuple of integers, one for each number from 0 to a degree."""
    rises = sorted(rng.randint(-steep, steep) for _ in range(degree))
    found = [rng.randint(-9, 9)]
    for rise in rises:
        found.append(found[-1] + rise)
    return tuple(found)


class Interface(Case):
    def test_names_and_arguments(self):
        for name, arguments in {"is_tables": ["web", "thing"], "displeasure": ["tables", "row"],
                                "distances": ["web", "wish"], "squares": ["web", "wish"], "added": ["one", "other"]}.items():
            call = getattr(tables_file, name)
            self.assertEqual(list(inspect.signature(call).parameters), arguments)
            self.assertEqual(call.__module__, "contentties.tables")

    def test_example(self):
        self.same(distances(PATH, (1, 0, 1)), ((1, 0), (0, 1, 2), (1, 0)))
        self.truth(is_tables(TRIANGLE, ((4, 1, 0), (10, 0, 10), (10, 0, 10))), True)


class IsTables(Case):
    def test_right_tables(self):
        rng = seeded(530)
        self.truth(is_tables(Web(0), ()), True)
        self.truth(is_tables(Web(1), ((5,),)), True)
        self.truth(is_tables(Web(3), ((-MOST,), (0,), (MOST,))), True)
        self.truth(is_tables(PATH, RIGHT), True)
        for _ in range(30):
            web = random_web(rng, rng.randint(0, 7), 9, 0.4)
            self.truth(is_tables(web, tuple(convex(rng, degree) for degree in web.degrees)), True)

    def test_other_lengths(self):
        for thing in (RIGHT[:2], (*RIGHT, (0,)), ((0,), *RIGHT[1:]), ((0, 1, 2), *RIGHT[1:]), ((), *RIGHT[1:]),
                      (RIGHT[0], (1, 0), RIGHT[2]), (RIGHT[0], (1, 0, 1, 2), RIGHT[2]), ()):
            self.truth(is_tables(PATH, thing), False, thing)
        self.truth(is_tables(Web(0), ((),)), False)
        self.truth(is_tables(Web(0), ((0,),)), False)
        self.truth(is_tables(Web(1), ()), False)
        self.truth(is_tables(Web(1), ((),)), False)

    def test_bounds(self):
        web = Web(2, [(0, 1, 2)])
        for integers, right in (((MOST, 0, MOST), True), ((MOST + 1, 0, MOST), False), ((MOST, 0, MOST + 1), False),
                                ((0, -MOST, MOST), True), ((0, -MOST - 1, 0), False), ((-MOST, -MOST, -MOST), True),
                                ((-MOST - 1, -MOST, -MOST + 1), False), ((10 ** 50, 0, 0), False),
                                ((0, 0, 10 ** 50), False)):
            self.truth(is_tables(web, ((0, 0, 0), integers)), right, integers)
            self.truth(is_tables(web, (integers, (0, 0, 0))), right, integers)
        self.truth(is_tables(Web(1), ((MOST,),)), True)
        self.truth(is_tables(Web(1), ((MOST + 1,),)), False)

    def test_convex_at_all_places(self):
        web = Web(2, [(0, 1, 3)])
        flat = (0, 0, 0, 0)
        for table, right in (((0, 1, 2, 3), True), ((3, 1, 0, 0), True), ((0, 1, 1, 2), False), ((0, 2, 3, 5), False),
                             ((5, 3, 2, 0), False), ((0, 0, 1, 0), False), ((0, 0, -1, -2), False), ((9, 1, 0, 9), True),
                             ((0, 1, 0, 1), False), ((-MOST, 0, MOST, MOST), False), ((MOST, 0, -1, MOST), True)):
            self.truth(is_tables(web, (flat, table)), right, table)
            self.truth(is_tables(web, (table, flat)), right, table)
            self.truth(is_tables(web, (table, table)), right, table)

    def test_not_convex_at_one_place_alone(self):
        rng = seeded(531)
        for _ in range(40):
            web = complete(4, rng.randint(1, 4))
            tables = [convex(rng, degree) for degree in web.degrees]
            place = rng.randrange(4)
            at = rng.randrange(1, web.degrees[place])
            broken = list(tables[place])
            broken[at] = (broken[at - 1] + broken[at + 1]) // 2 + 1
            tables[place] = tuple(broken)
            self.truth(is_tables(web, tuple(tables)), False, tables)

    def test_wrong_values(self):
        self.truth(is_tables(PATH, RIGHT), True)
        wrong = [list(RIGHT), [list(table) for table in RIGHT], ([0, 5], *RIGHT[1:]), ((0, True), *RIGHT[1:]),
                 ((False, 5), *RIGHT[1:]), (RIGHT[0], (True, False, True), RIGHT[2]), (None, *RIGHT[1:]), (RIGHT,),
                 (("0", "5"), *RIGHT[1:]), ((0, None), *RIGHT[1:]), (Agreeing(), *RIGHT[1:]), ((0, Agreeing()), *RIGHT[1:]),
                 Agreeing(), {0: (0, 5), 1: (1, 0, 1), 2: (7, -7)}, (0, 5, 1), ((0, (5,)), *RIGHT[1:]), ("ab", *RIGHT[1:])]
        for thing in wrong + list(NO_INTEGERS) + [0, 1, -1]:
            self.truth(is_tables(PATH, thing), False, repr(thing))
        for thing in NO_INTEGERS:
            self.truth(is_tables(Web(0), thing), isinstance(thing, tuple) and not thing, repr(thing))

    def test_large_webs(self):
        self.truth(is_tables(Web(60), ((3,),) * 60), True)
        self.truth(is_tables(Web(60), ((3,),) * 59), False)
        full = complete(60, 1)
        self.truth(is_tables(full, (tuple(range(60)),) * 60), True)
        self.truth(is_tables(full, (tuple(range(60)),) * 59 + (tuple(range(59)),)), False)
        self.truth(is_tables(complete(60, MOST), (tuple(range(60)),) * 60), False)


class Displeasure(Case):
    def test_sums(self):
        self.same(displeasure((), ()), 0)
        self.same(displeasure(((4,), (-5,)), (0, 0)), -1)
        self.same(displeasure(RIGHT, (1, 2, 0)), 13)
        self.same(displeasure(((MOST,),) * 60, (0,) * 60), 60 * MOST)
        self.same(displeasure(((-MOST, MOST),) * 3, (0, 1, 0)), -MOST)
        rng = seeded(532)
        for _ in range(20):
            web = random_web(rng, rng.randint(0, 8), 5)
            tables = tuple(convex(rng, degree) for degree in web.degrees)
            row = tuple(rng.randint(0, degree) for degree in web.degrees)
            self.same(displeasure(tables, row), sum(tables[place][item] for place, item in enumerate(row)))


class Wishes(Case):
    def test_distances_and_squares(self):
        self.same(distances(Web(0), ()), ())
        self.same(squares(Web(0), ()), ())
        self.same(distances(Web(1), (-3,)), ((3,),))
        self.same(squares(Web(1), (-3,)), ((9,),))
        self.same(distances(Web(2, [(0, 1, 3)]), (2, 5)), ((2, 1, 0, 1), (5, 4, 3, 2)))
        self.same(squares(Web(2, [(0, 1, 3)]), (2, 5)), ((4, 1, 0, 1), (25, 16, 9, 4)))
        self.same(distances(Web(2, [(0, 1, 1)]), (-1000, 1000)), ((1000, 1001), (1000, 999)))
        self.same(squares(Web(2, [(0, 1, 1)]), (-1000, 1000)), ((10 ** 6, 1001 ** 2), (10 ** 6, 999 ** 2)))

    def test_they_are_tables(self):
        rng = seeded(533)
        for _ in range(20):
            web = random_web(rng, rng.randint(0, 4), 2)
            if len(granted_rows(web)) > 200:
                continue
            wish = tuple(rng.randint(-3, degree + 3) for degree in web.degrees)
            apart, squared = distances(web, wish), squares(web, wish)
            self.truth(is_tables(web, apart) and is_tables(web, squared), True)
            for row in granted_rows(web):
                self.same(displeasure(apart, row), plain_distance(row, wish))
                self.same(displeasure(squared, row), sum((a - b) ** 2 for a, b in zip(row, wish)))

    def test_webs_at_the_limits(self):
        web = Web(2, [(0, 1, 1023)])
        self.same(distances(web, (1000, -1000))[1][1023], 2023)
        self.same(squares(web, (1000, -1000))[1][1023], 2023 ** 2)
        self.same(distances(complete(5, 1), (2,) * 5), ((2, 1, 0, 1, 2),) * 5)

    def test_limits(self):
        for ask in (distances, squares):
            for web in (Web(2, [(0, 1, 1024)]), complete(5, 2), Web(4, [(0, 1, 40), (2, 3, 24)]), Web(2, [(0, 1, MOST)])):
                self.fails(TooMany, {"limit": 1024}, ask, web, (0,) * web.size)
            for web in (Web(6), complete(6, 1), complete(60, MOST)):
                self.fails(TooMany, {"limit": 5}, ask, web, (0,) * web.size)


class Added(Case):
    def test_sums(self):
        self.same(added((), ()), ())
        self.same(added(((1,), (2, 3)), ((10,), (-20, 30))), ((11,), (-18, 33)))
        self.same(added(((MOST,),) * 60, ((-MOST,),) * 60), ((0,),) * 60)
        rng = seeded(534)
        for _ in range(20):
            web = random_web(rng, rng.randint(0, 9), 6)
            one, other = [tuple(convex(rng, degree) for degree in web.degrees) for _ in range(2)]
            both = added(one, other)
            self.truth(is_tables(web, both), True)
            row = tuple(rng.randint(0, degree) for degree in web.degrees)
            self.same(displeasure(both, row), displeasure(one, row) + displeasure(other, row))
            self.same(both, added(other, one))


if __name__ == "__main__":
    unittest.main()
