"""[3], [4], [13], [91]: best."""

import inspect
import unittest

from contentties import best as best_file
from contentties.best import best, best_rows, descent, is_best
from contentties.drafts import Draft
from contentties.errors import Barred, TooMany
from contentties.lacks import lack
from contentties.lots import is_choice, is_lots
from contentties.moves import near_rows, second_steps, steps_towards
from contentties.shapes import complete, line, ring
from contentties.tables import added, displeasure, distances, squares
from contentties.webs import Web
from tests.helpers import (
    NO_INTEGERS, Agreeing, Case, granted, multiplied, plain_distance, plain_excess, plain_lots, random_web, seeded,
)
from tests.test_tables import convex

MOST = 10 ** 9
TRIANGLE = Web(3, [(0, 1, 1), (0, 2, 1), (1, 2, 1)])
PATH = line(3, 1)
WISHED = distances(PATH, (1, 0, 1))
RIGHT = (2, Web(3), [((1, 0, 1), ((1,), (0, 2)))])
ONE_MORE = (Web(2, [(0, 1, 1024)]), complete(5, 2), Web(4, [(0, 1, 40), (2, 3, 24)]))
TOO_LARGE = (Web(6), Web(60), complete(6, 1), complete(60, MOST))


def flat(web, number=0):
    """Tables in which all numbers are equally good."""
    return tuple((number,) * (degree + 1) for degree in web.degrees)


def some_webs(rng):
    """Small webs with their granted rows, found by going through all choices."""
    webs = [Web(0), Web(1), Web(2), Web(5), TRIANGLE, PATH, line(4, 2), ring(5, 1), complete(4, 1), Web(2, [(0, 1, 9)]),
            Web(4, [(0, 1, 3), (2, 3, 2)])]
    webs.extend(random_web(rng, rng.randint(2, 5), rng.choice((1, 2)), 0.5) for _ in range(10))
    return [(web, granted(web)) for web in webs if multiplied([n + 1 for _, _, n in web.ties]) <= 300]


def some_tables(rng, web, rows):
    """Tables of several kinds: wishes, convex ones, such with equal differences."""
    wish = tuple(rng.randint(-1, degree + 1) for degree in web.degrees)
    slopes = tuple(tuple(place * number for number in range(degree + 1)) for place, degree in enumerate(web.degrees))
    return [flat(web), flat(web, -MOST), distances(web, wish), squares(web, wish), slopes,
            added(distances(web, rng.choice(sorted(rows))), slopes),
            tuple(convex(rng, degree) for degree in web.degrees), tuple(convex(rng, degree, 1) for degree in web.degrees)]


def better_near(web, tables, row):
    """The rows at distance 2 with less displeasure, granted or not."""
    return [near for near in near_rows(web, row) if displeasure(tables, near) < displeasure(tables, row)]


def plain_is_reasons(web, tables, row, reasons):
    """Whether reasons are told for just the better near rows, and bar them, word by word."""
    return [near for near, _ in reasons] == better_near(web, tables, row) and all(
        is_lots(web, lots) and plain_excess(web, near, lots) < 0 for near, lots in reasons)


class Interface(Case):
    def test_names_and_arguments(self):
        for name, arguments in {"best": ["web", "tables"], "is_best": ["web", "tables", "thing"],
                                "best_rows": ["web", "tables"], "descent": ["web", "tables", "row"]}.items():
            call = getattr(best_file, name)
            self.assertEqual(list(inspect.signature(call).parameters), arguments)
            self.assertEqual(call.__module__, "contentties.best")

    def test_example(self):
        self.truth(is_best(PATH, WISHED, RIGHT), True)
        self.same(lack(PATH, (1, 0, 1))[0], 2)
        self.same(descent(TRIANGLE, ((4, 1, 0), (10, 0, 10), (10, 0, 10)), (0, 1, 1)), [(0, 1, 1), (2, 1, 1)])


class Best(Case):
    def test_through_all_choices(self):
        rng = seeded(540)
        for web, rows in some_webs(rng):
            for tables in some_tables(rng, web, rows):
                least = min(displeasure(tables, row) for row in rows)
                found = best(web, tables)
                self.assertIs(type(found), tuple)
                value, kept, reasons = found
                self.same(value, least)
                self.truth(is_choice(web, kept.degrees, kept), True)
                self.same(displeasure(tables, kept.degrees), value)
                self.assertIs(type(reasons), list)
                self.truth(plain_is_reasons(web, tables, kept.degrees, reasons), True, f"{web.ties} {tables} {found}")
                self.truth(is_best(web, tables, found), True)
                self.same(best_rows(web, tables), [row for row in sorted(rows) if displeasure(tables, row) == least])

    def test_near_rows_decide(self):
        # [13]: a granted row that no granted near row betters has the least displeasure.
        rng = seeded(541)
        for web, rows in some_webs(rng):
            for tables in some_tables(rng, web, rows)[2:]:
                least = min(displeasure(tables, row) for row in rows)
                for row in rows:
                    betters = any(near in rows for near in better_near(web, tables, row))
                    self.truth(betters, displeasure(tables, row) > least)

    def test_wishes_and_lacks(self):
        rng = seeded(542)
        for web, rows in some_webs(rng):
            wish = tuple(rng.randint(-2, degree + 2) for degree in web.degrees)
            self.same(best(web, distances(web, wish))[0], lack(web, wish)[0])
            self.same(best(web, distances(web, wish))[0], min(plain_distance(row, wish) for row in rows))

    def test_steps_between_best_rows(self):
        rng = seeded(543)
        for web, rows in some_webs(rng):
            for tables in some_tables(rng, web, rows)[:4]:
                found = best_rows(web, tables)
                for one in found[:5]:
                    for other in found[-5:]:
                        for step in steps_towards(one, other):
                            moved = [(step, second) for second in second_steps(web, one, other, step)]
                            self.assertTrue(any(self.moved(one, steps) in found and self.moved(other, steps, -1) in found
                                                for steps in moved), f"{web.ties} {tables} {one} {other} {step}")

    def moved(self, row, steps, sign=1):
        items = list(row)
        for place, of_step in steps:
            items[place] += sign * of_step
        return tuple(items)

    def test_few_places(self):
        self.same(best(Web(0), ()), (0, Web(0), []))
        self.same(best_rows(Web(0), ()), [()])
        self.same(descent(Web(0), (), ()), [()])
        self.same(best(Web(1), ((-MOST,),)), (-MOST, Web(1), []))
        self.same(best_rows(Web(1), ((3,),)), [(0,)])
        self.same(best(Web(2, [(0, 1, 2)]), ((0, 0, 1), (2, 1, 0)))[0], 1)
        self.same(best_rows(Web(2, [(0, 1, 2)]), ((0, 0, 1), (2, 1, 0))), [(1, 1), (2, 2)])

    def test_equal_differences(self):
        for web in (TRIANGLE, complete(4, 1), complete(5, 1)):
            self.same(best(web, flat(web, 4))[0], 4 * web.size)
            self.same(best(web, flat(web, 4))[2], [])
            down = tuple(tuple(range(0, -degree - 1, -1)) for degree in web.degrees)
            self.same(best_rows(web, down), [web.degrees])
            self.same(best(web, down)[1], web)
        self.same(best_rows(TRIANGLE, flat(TRIANGLE)), sorted(granted(TRIANGLE)))

    def test_extreme_integers(self):
        tables = ((MOST, -MOST, MOST),) * 3
        self.same(best(TRIANGLE, tables)[0], -MOST)
        self.same(best_rows(TRIANGLE, tables), [(0, 1, 1), (1, 0, 1), (1, 1, 0), (1, 1, 2), (1, 2, 1), (2, 1, 1)])

    def test_results_belong_to_the_caller(self):
        found = best(PATH, WISHED)
        found[2].clear()
        self.truth(is_best(PATH, WISHED, best(PATH, WISHED)), True)
        self.same(len(best(PATH, WISHED)[2]), len(better_near(PATH, WISHED, best(PATH, WISHED)[1].degrees)))
        for ask in (lambda: best_rows(PATH, WISHED), lambda: descent(PATH, WISHED, (0, 0, 0))):
            once = ask()
            expected = list(once)
            once.clear()
            self.same(ask(), expected)


class Descent(Case):
    def test_step_by_step(self):
        rng = seeded(544)
        for web, rows in some_webs(rng):
            for tables in some_tables(rng, web, rows)[2:]:
                for row in rng.sample(sorted(rows), min(4, len(rows))):
                    expected = [row]
                    while True:
                        found = [(displeasure(tables, near), near) for near in better_near(web, tables, expected[-1])
                                 if near in rows]
                        if not found:
                            break
                        expected.append(min(found)[1])
                    self.same(descent(web, tables, row), expected)
                    self.assertIn(expected[-1], best_rows(web, tables))

    def test_of_several_the_least(self):
        down = tuple(tuple(range(0, -degree - 1, -1)) for degree in TRIANGLE.degrees)
        self.same(descent(TRIANGLE, down, (0, 0, 0)), [(0, 0, 0), (0, 1, 1), (1, 1, 2), (2, 2, 2)])
        self.same(descent(TRIANGLE, flat(TRIANGLE), (1, 1, 2)), [(1, 1, 2)])

    def test_long_descents(self):
        web = Web(2, [(0, 1, 1023)])
        found = descent(web, distances(web, (1000, 1000)), (0, 0))
        self.same(found, [(x, x) for x in range(1001)])
        self.same(best(web, distances(web, (1000, -1000)))[0], 2000)

    def test_barred(self):
        tables = flat(TRIANGLE)
        for row in ((1, 1, 1), (2, 2, 0), (-1, 0, 1), (3, 3, 2), (10 ** 12, 0, 0), (-10 ** 12,) * 3):
            error = self.fails(Barred, {"row": row}, descent, TRIANGLE, tables, row)
            self.assertIs(error.row, row)
            self.truth(is_lots(TRIANGLE, error.lots), True)
            self.assertLess(plain_excess(TRIANGLE, row, error.lots), 0)
        self.fails(Barred, {"row": (2,)}, descent, Web(1), ((0,),), (2,))


class IsBest(Case):
    def test_all_choices_and_reasons(self):
        rng = seeded(545)
        for web, rows in some_webs(rng)[:9]:
            for tables in some_tables(rng, web, rows)[2:5]:
                least = min(displeasure(tables, row) for row in rows)
                right = best(web, tables)
                for kept in (Web(web.size), web, right[1]):
                    row = kept.degrees
                    reasons = [(near, lack(web, near)[1]) for near in better_near(web, tables, row)]
                    value = displeasure(tables, row)
                    self.truth(is_best(web, tables, (value, kept, reasons)), value == least)
                    self.truth(is_best(web, tables, (value + 1, kept, reasons)), False)

    def test_all_lots_as_reasons(self):
        for lots in plain_lots(3):
            bars = plain_excess(PATH, (1, 0, 1), lots) < 0
            self.truth(is_best(PATH, WISHED, (2, Web(3), [((1, 0, 1), lots)])), bars, lots)

    def test_right_values_of_other_forms(self):
        # Any choice with the least displeasure is right, and any lots that bar.
        tables = flat(TRIANGLE)
        for kept in (Web(3), TRIANGLE, Web(3, [(1, 2, 1)])):
            self.truth(is_best(TRIANGLE, tables, (0, kept, [])), True)
        for kept in (Web(3), PATH, Web(3, [(0, 1, 1)]), Web(3, [(1, 2, 1)])):
            self.truth(is_best(PATH, WISHED, (2, kept, RIGHT[2])), True)
            self.truth(is_best(PATH, WISHED, (2, kept, [])), False)

    def test_wrong_values(self):
        row, lots = RIGHT[2][0]
        reason = RIGHT[2][0]
        wrong = [RIGHT[:2], (*RIGHT, None), list(RIGHT), (2, RIGHT[1], []), (2, RIGHT[1], [reason, reason]),
                 (2, RIGHT[1], (reason,)), (2, RIGHT[1], [list(reason)]), (2, RIGHT[1], [(list(row), lots)]),
                 (2, RIGHT[1], [(row, ((0,), (1, 2)))]), (2, RIGHT[1], [(row, ((), ()))]), (2, RIGHT[1], [(row, None)]),
                 (2, RIGHT[1], [(row, ((1,), (2, 0)))]), (2, RIGHT[1], [(row, ((True,), (0, 2)))]),
                 (2, RIGHT[1], [(row, ((1,), (False, 2)))]), (2, RIGHT[1], [((True, 0, 1), lots)]),
                 (2, RIGHT[1], [((1, False, 1), lots)]), (2, RIGHT[1], [(row, lots, lots)]), (2, RIGHT[1], [row, lots]),
                 (2, RIGHT[1], [((1, 0, 0), lots)]), (2, RIGHT[1], [((1, 0), lots)]), (1, RIGHT[1], [reason]),
                 (3, RIGHT[1], [reason]), ("2", RIGHT[1], [reason]), (None, RIGHT[1], [reason]), (2, (0, 0, 0), [reason]),
                 (2, Draft(Web(3)), [reason]), (2, Web(4), [reason]), (2, Web(2), [reason]), (2, None, [reason]),
                 (2, Web(3, [(0, 2, 1)]), [reason]), (2, Web(3, [(0, 1, 2)]), []), (2, RIGHT[1], None), (2, RIGHT[1], [None]),
                 (Agreeing(), RIGHT[1], [reason]), (2, Agreeing(), [reason]), (2, RIGHT[1], [Agreeing()]),
                 (2, RIGHT[1], [(Agreeing(), lots)]), (2, RIGHT[1], [(row, Agreeing())]), (2, RIGHT[1], Agreeing()), Agreeing()]
        self.truth(is_best(PATH, WISHED, RIGHT), True)
        for thing in wrong + list(NO_INTEGERS) + [0, 1, 2]:
            self.truth(is_best(PATH, WISHED, thing), False, repr(thing))

    def test_truths_are_no_values(self):
        for number, truth in ((0, False), (1, True)):
            tables = ((number,),)
            self.truth(is_best(Web(1), tables, (number, Web(1), [])), True)
            self.truth(is_best(Web(1), tables, (truth, Web(1), [])), False)


class Limits(Case):
    def test_limits_come_first(self):
        for webs, limit in ((ONE_MORE, 1024), (TOO_LARGE, 5)):
            for web in webs:
                tables = ((0,),) * web.size
                for call, more in ((best, ()), (best_rows, ()), (descent, ((-1,) * web.size,)), (is_best, (None,)),
                                   (descent, ((0,) * web.size,)), (is_best, ((0, Web(web.size), []),))):
                    self.fails(TooMany, {"limit": limit}, call, web, tables, *more)

    def test_webs_at_the_limits(self):
        for web in (complete(5, 1), Web(2, [(0, 1, 1023)]), Web(5), Web(4, [(0, 1, 31), (2, 3, 31)])):
            tables = squares(web, (3, 1) * (web.size // 2) + (0,) * (web.size % 2))
            found = best(web, tables)
            self.truth(is_best(web, tables, found), True)
            self.assertIn(found[1].degrees, best_rows(web, tables))
            self.assertIn(descent(web, tables, (0,) * web.size)[-1], best_rows(web, tables))


if __name__ == "__main__":
    unittest.main()
