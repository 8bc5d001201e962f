"""[3], [4], [13], [82]: moves."""

import inspect
import itertools
import unittest

from contentties import moves as moves_file
from contentties.errors import Barred, TooMany
from contentties.listing import granted_rows
from contentties.lots import is_lots
from contentties.moves import is_way, moved_by, near_rows, second_steps, steps_towards, way
from contentties.shapes import complete, line, ring
from contentties.webs import Web
from tests.helpers import NO_INTEGERS, Agreeing, Case, granted, plain_distance, plain_excess, random_row, random_web, seeded

MOST = 10 ** 9
FAR = 10 ** 12
TRIANGLE = Web(3, [(0, 1, 1), (0, 2, 1), (1, 2, 1)])
SMALL = (Web(0), Web(1), Web(2), TRIANGLE, line(4, 2), ring(5, 1), complete(4, 1), Web(2, [(0, 1, 9)]),
         Web(4, [(0, 1, 3), (2, 3, 2)]), complete(3, 3))
ONE_MORE = (Web(2, [(0, 1, 1024)]), complete(5, 2), Web(4, [(0, 1, 40), (2, 3, 24)]))
TOO_LARGE = (Web(6), Web(60), complete(6, 1), complete(60, MOST))


def changed(row, step):
    return tuple(item + (step[1] if place == step[0] else 0) for place, item in enumerate(row))


def all_steps(size):
    return [(place, sign) for place in range(size) for sign in (-1, 1)]


def plain_steps(one, other):
    """The steps that make the distance less by 1."""
    return [step for step in all_steps(len(one))
            if plain_distance(changed(one, step), other) == plain_distance(one, other) - 1]


def plain_near(web, row):
    """The rows at distance 2, of all rows from 0 to the degrees."""
    return [near for near in itertools.product(*[range(degree + 1) for degree in web.degrees])
            if plain_distance(row, near) == 2]


def plain_second_steps(rows, one, other, step):
    """The second steps, by all steps and the granted rows."""
    begun = changed(one, step)
    back = changed(other, (step[0], -step[1]))
    return [second for second in plain_steps(begun, other)
            if changed(begun, second) in rows and changed(back, (second[0], -second[1])) in rows]


def plain_is_way(rows, one, other, found):
    """Whether a list of rows is a way, word by word."""
    if not found or found[0] != one or found[-1] != other or not all(row in rows for row in found):
        return False
    return all(plain_distance(row, ahead) == 2 and plain_distance(row, other) + 2 == plain_distance(ahead, other)
               for ahead, row in zip(found, found[1:]))


class Interface(Case):
    def test_names_and_arguments(self):
        for name, arguments in {"moved_by": ["row", "steps"], "steps_towards": ["one", "other"],
                                "near_rows": ["web", "row"], "second_steps": ["web", "one", "other", "step"],
                                "way": ["web", "one", "other"], "is_way": ["web", "one", "other", "thing"]}.items():
            call = getattr(moves_file, name)
            self.assertEqual(list(inspect.signature(call).parameters), arguments)
            self.assertEqual(call.__module__, "contentties.moves")

    def test_example(self):
        self.same([second_steps(TRIANGLE, (0, 0, 0), (2, 2, 2), (0, 1)), second_steps(TRIANGLE, (0, 1, 1), (2, 1, 1), (0, 1))],
                  [[(1, 1), (2, 1)], [(0, 1)]])


class Steps(Case):
    def test_moved_by(self):
        self.same(moved_by((), []), ())
        self.same(moved_by((3, 4), []), (3, 4))
        self.same(moved_by((3, 4, 5), [(0, 1), (2, -1), (0, 1)]), (5, 4, 4))
        self.same(moved_by((0,), [(0, -1), (0, -1), (0, 1)]), (-1,))
        self.same(moved_by((FAR, -FAR), [(0, 1), (1, -1)]), (FAR + 1, -FAR - 1))
        self.same(moved_by((0,) * 100, [(place % 100, 1) for place in range(1000)]), (10,) * 100)

    def test_steps_towards(self):
        self.same(steps_towards((), ()), [])
        self.same(steps_towards((1, 2), (1, 2)), [])
        self.same(steps_towards((1, 5, 2, 0), (4, 5, 0, -FAR)), [(0, 1), (2, -1), (3, -1)])
        self.same(steps_towards((0,) * 70, (1,) * 70), [(place, 1) for place in range(70)])
        rng = seeded(510)
        for _ in range(30):
            one, other = [tuple(rng.randint(-2, 2) for _ in range(5)) for _ in range(2)]
            self.same(steps_towards(one, other), plain_steps(one, other))

    def test_arguments_stay(self):
        steps = [(0, 1), (1, -1)]
        moved_by((0, 0), steps)
        self.same(steps, [(0, 1), (1, -1)])
        found = steps_towards((0, 0), (1, 1))
        found.clear()
        self.same(steps_towards((0, 0), (1, 1)), [(0, 1), (1, 1)])


class NearRows(Case):
    def test_against_all_rows(self):
        rng = seeded(511)
        for web in SMALL + tuple(random_web(rng, rng.randint(1, 4), 2, 0.4) for _ in range(6)):
            rows = [web.degrees, (0,) * web.size] + [random_row(rng, web, 2) for _ in range(8)]
            for row in rows:
                self.same(near_rows(web, row), plain_near(web, row))

    def test_few_places(self):
        self.same(near_rows(Web(0), ()), [])
        for x in (0, 1, -1, 3, -2, 2, FAR):
            self.same(near_rows(Web(1), (x,)), [(0,)] if abs(x) == 2 else [])
        self.same(near_rows(Web(2, [(0, 1, 2)]), (1, 1)), [(0, 0), (0, 2), (2, 0), (2, 2)])
        self.same(near_rows(Web(2, [(0, 1, 2)]), (0, 0)), [(0, 2), (1, 1), (2, 0)])

    def test_rows_outside(self):
        web = line(3, 1)
        self.same(near_rows(web, (-1, 0, 0)), [(0, 0, 1), (0, 1, 0), (1, 0, 0)])
        self.same(near_rows(web, (-1, -1, 0)), [(0, 0, 0)])
        self.same(near_rows(web, (1, 4, 1)), [(1, 2, 1)])
        self.same(near_rows(web, (-3, 0, 0)), [])
        self.same(near_rows(web, (FAR, -FAR, 0)), [])

    def test_five_places_and_new_lists(self):
        web = complete(5, 1)
        found = near_rows(web, (2,) * 5)
        self.same(len(found), 10 + 4 * 10)
        found.clear()
        self.same(len(near_rows(web, (2,) * 5)), 50)
        self.same(near_rows(web, (2,) * 5), sorted(near_rows(web, (2,) * 5)))


class SecondSteps(Case):
    def test_against_all_steps(self):
        rng = seeded(512)
        for web in SMALL + tuple(random_web(rng, rng.randint(2, 5), rng.choice((1, 2)), 0.5) for _ in range(8)):
            rows = granted(web)
            if len(rows) > 300:
                continue
            for _ in range(12):
                one, other = rng.choice(sorted(rows)), rng.choice(sorted(rows))
                for step in steps_towards(one, other):
                    found = second_steps(web, one, other, step)
                    self.same(found, plain_second_steps(rows, one, other, step))
                    self.assertNotEqual(found, [], f"{web.ties} {one} {other} {step}")

    def test_all_pairs_of_a_small_web(self):
        web = Web(4, [(0, 1, 1), (0, 2, 1), (1, 2, 1), (2, 3, 2)])
        rows = granted(web)
        for one, other in itertools.product(sorted(rows), repeat=2):
            for step in steps_towards(one, other):
                self.same(second_steps(web, one, other, step), plain_second_steps(rows, one, other, step))

    def test_both_rows_count(self):
        # Behind (0, 1), the step (1, 1) leads the first row to a granted one, (3, 1) both rows.
        rng = seeded(513)
        one_sided = 0
        for _ in range(60):
            web = random_web(rng, 4, 1, 0.3)
            rows = granted(web)
            one, other = rng.choice(sorted(rows)), rng.choice(sorted(rows))
            for step in steps_towards(one, other):
                begun, found = changed(one, step), second_steps(web, one, other, step)
                ahead = [second for second in plain_steps(begun, other) if changed(begun, second) in rows]
                one_sided += ahead != found
                for second in found:
                    self.assertIn(second, ahead)
        self.assertGreater(one_sided, 0)

    def test_new_lists(self):
        for _ in range(2):
            found = second_steps(TRIANGLE, (0, 0, 0), (2, 2, 2), (0, 1))
            self.same(found, [(1, 1), (2, 1)])
            found.clear()


class Ways(Case):
    def check(self, web, rows, one, other):
        found = way(web, one, other)
        self.assertIs(type(found), list)
        self.truth(plain_is_way(rows, one, other, found), True, f"{web.ties} {one} {other} {found}")
        self.same(len(found), plain_distance(one, other) // 2 + 1)
        self.truth(is_way(web, one, other, found), True)
        return found

    def test_against_the_words(self):
        rng = seeded(514)
        for web in SMALL + tuple(random_web(rng, rng.randint(2, 5), rng.choice((1, 2)), 0.5) for _ in range(10)):
            rows = granted(web)
            if len(rows) > 400:
                continue
            self.check(web, rows, (0,) * web.size, web.degrees)
            self.check(web, rows, web.degrees, (0,) * web.size)
            for _ in range(10):
                self.check(web, rows, rng.choice(sorted(rows)), rng.choice(sorted(rows)))

    def test_all_pairs_of_a_small_web(self):
        web = Web(4, [(0, 1, 1), (1, 2, 1), (0, 2, 1), (2, 3, 1)])
        rows = granted(web)
        for one, other in itertools.product(sorted(rows), repeat=2):
            self.check(web, rows, one, other)

    def test_long_ways(self):
        web = Web(2, [(0, 1, 1023)])
        self.same(len(self.check(web, set(granted_rows(web)), (0, 0), (1023, 1023))), 1024)
        self.check(complete(5, 1), set(granted_rows(complete(5, 1))), (0,) * 5, (4,) * 5)

    def test_ways_of_one_row(self):
        self.same(way(Web(0), (), ()), [()])
        self.same(way(Web(1), (0,), (0,)), [(0,)])
        self.same(way(TRIANGLE, (1, 1, 2), (1, 1, 2)), [(1, 1, 2)])
        for thing in ([], [()], [(), ()], ((),), None):
            self.truth(is_way(Web(0), (), (), thing), thing == [()])

    def test_barred(self):
        good, odd, bad = (1, 1, 0), (1, 1, 1), (2, 2, 0)
        for one, other, first in ((odd, good, odd), (good, odd, odd), (bad, odd, bad), (odd, bad, odd), (good, bad, bad),
                                  ((-1, 0, 1), bad, (-1, 0, 1)), (good, (FAR, 0, 0), (FAR, 0, 0)), (odd, odd, odd)):
            error = self.fails(Barred, {"row": first}, way, TRIANGLE, one, other)
            self.truth(is_lots(TRIANGLE, error.lots), True)
            self.assertLess(plain_excess(TRIANGLE, first, error.lots), 0)
            self.truth(is_way(TRIANGLE, one, other, [one, other]), False)
            self.truth(is_way(TRIANGLE, one, other, [one] if one == other else [one, good, other]), False)
        self.assertIs(self.fails(Barred, {}, way, TRIANGLE, bad, good).row, bad)

    def test_new_lists(self):
        found = way(TRIANGLE, (0, 0, 0), (2, 2, 2))
        found.clear()
        self.check(TRIANGLE, granted(TRIANGLE), (0, 0, 0), (2, 2, 2))


class IsWay(Case):
    def test_against_the_words(self):
        rows = granted(TRIANGLE)
        listed = sorted(rows) + [(1, 1, 1), (0, 0, 2), (2, 2, 0), (-1, 1, 0), (3, 3, 2)]
        for one, other in ((a, b) for a in listed for b in listed):
            for middle in [()] + [(row,) for row in listed] + [(a, b) for a in listed[:6] for b in listed[:6]]:
                for thing in ([one, *middle, other], [one, *middle]):
                    self.truth(is_way(TRIANGLE, one, other, thing), plain_is_way(rows, one, other, thing), f"{thing}")

    def test_wrong_values(self):
        one, other = (0, 0, 0), (1, 1, 0)
        right = [one, other]
        self.truth(is_way(TRIANGLE, one, other, right), True)
        wrong = [tuple(right), [list(one), other], [one, [1, 1, 0]], [one, other, other], [one, one, other], [other, one],
                 [one], [other], [], [(0, 0), other], [one, (1, 1, 0, 0)], [(False, False, False), other],
                 [one, (True, True, False)], [one, (True, 1, 0)], [(0, False, 0), other], [Agreeing(), other],
                 [one, Agreeing()], Agreeing(), [one, (1, 1, Agreeing())], [one, ("1", 1, 0)], {0: one, 1: other},
                 [one, other, None], [right], [one, (1, 1, None)]]
        for thing in wrong + list(NO_INTEGERS) + [0, 1, -1]:
            self.truth(is_way(TRIANGLE, one, other, thing), False, repr(thing))
            self.truth(is_way(TRIANGLE, one, one, thing), isinstance(thing, list) and thing == [one], repr(thing))

    def test_moves_must_lead_nearer(self):
        web = complete(4, 1)
        one, other = (0, 0, 0, 0), (1, 1, 1, 1)
        self.truth(is_way(web, one, other, [one, (1, 1, 0, 0), other]), True)
        # A round way, a way that goes too far, one that leaves one row out.
        self.truth(is_way(web, one, other, [one, (1, 1, 0, 0), (1, 0, 1, 0), other]), False)
        self.truth(is_way(web, one, other, [one, (1, 1, 0, 0), (2, 1, 1, 0), other]), False)
        self.truth(is_way(web, one, other, [one, other]), False)


class Limits(Case):
    def asked(self, size):
        row = (0,) * size
        return [(near_rows, (row,)), (way, (row, row)), (is_way, (row, row, [row]))]

    def test_limits(self):
        for webs, limit in ((ONE_MORE, 1024), (TOO_LARGE, 5)):
            for web in webs:
                for call, arguments in self.asked(web.size):
                    self.fails(TooMany, {"limit": limit}, call, web, *arguments)
                self.fails(TooMany, {"limit": limit}, second_steps, web, (0,) * web.size, web.degrees, (0, 1))

    def test_limits_come_first(self):
        for webs, limit in ((ONE_MORE, 1024), (TOO_LARGE, 5)):
            for web in webs:
                barred = (-1,) * web.size
                self.fails(TooMany, {"limit": limit}, way, web, barred, barred)
                self.fails(TooMany, {"limit": limit}, is_way, web, barred, barred, None)
                self.fails(TooMany, {"limit": limit}, near_rows, web, barred)

    def test_webs_at_the_limits(self):
        for web in (complete(5, 1), Web(2, [(0, 1, 1023)]), Web(5)):
            for call, arguments in self.asked(web.size):
                call(web, *arguments)


if __name__ == "__main__":
    unittest.main()
