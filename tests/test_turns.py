"""[3], [4], [13], [83]: turns."""

import inspect
import itertools
import unittest

from contentties import turns as turns_file
from contentties.errors import TooFew, TooMany, Unequal
from contentties.listing import choices, granted_rows
from contentties.moves import moved_by, steps_towards
from contentties.shapes import complete, line, ring
from contentties.turns import is_trail, is_turn, trail, turn, turned
from contentties.webs import Web
from tests.helpers import NO_INTEGERS, Agreeing, Case, pairs_of, random_web, seeded

MOST = 10 ** 9
ONE, OTHER = Web(4, [(0, 1, 1), (2, 3, 1)]), Web(4, [(1, 2, 1), (0, 3, 1)])


def passes(walk, sign):
    """The pair and the sign of each pass."""
    return [((min(u, v), max(u, v)), sign if at % 2 == 0 else -sign) for at, (u, v) in enumerate(zip(walk, walk[1:]))]


def plain_fits(one, other, walk, sign):
    """Whether a walk fits, word by word."""
    for pair in pairs_of(one.size):
        signs = [found for at, found in passes(walk, sign) if at == pair]
        difference = other[pair] - one[pair]
        if signs and (len(signs) > abs(difference) or any(found * difference <= 0 for found in signs)):
            return False
    return True


def plain_turned(web, walk, sign):
    """The web changed pass by pass, numbers below 0 being allowed on the way."""
    numbers = {pair: web[pair] for pair in pairs_of(web.size)}
    for pair, found in passes(walk, sign):
        numbers[pair] += found
    return Web(web.size, [(u, v, number) for (u, v), number in numbers.items()])


def plain_is_trail(one, other, step, walk):
    """Whether a walk is a trail, word by word."""
    if len(walk) < 2 or walk[0] != step[0] or not plain_fits(one, other, walk, step[1]):
        return False
    last = (walk[-1], passes(walk, step[1])[-1][1])
    return last in steps_towards(moved_by(one.degrees, [step]), other.degrees)


def plain_is_turn(one, other, walk):
    """Whether a walk is a turn, word by word."""
    if one.degrees != other.degrees:
        return False
    if one == other:
        return walk == []
    return walk != [] and walk[0] == walk[-1] and plain_fits(one, other, walk, 1) and plain_turned(one, walk, 1) == other


def all_walks(size, longest):
    """All walks of at most so many places."""
    for many in range(longest + 1):
        for walk in itertools.product(range(size), repeat=many):
            if all(place != following for place, following in zip(walk, walk[1:])):
                yield list(walk)


class Interface(Case):
    def test_names_and_arguments(self):
        for name, arguments in {"turned": ["web", "walk", "sign"], "trail": ["one", "other", "step"],
                                "is_trail": ["one", "other", "step", "thing"], "turn": ["one", "other"],
                                "is_turn": ["one", "other", "thing"]}.items():
            call = getattr(turns_file, name)
            self.assertEqual(list(inspect.signature(call).parameters), arguments)
            self.assertEqual(call.__module__, "contentties.turns")

    def test_example(self):
        self.truth(is_trail(Web(3, [(1, 2, 1)]), Web(3, [(0, 1, 1), (0, 2, 1)]), (0, 1), [0, 1, 2, 0]), True)
        self.truth(is_turn(ONE, OTHER, [0, 3, 2, 1, 0]), True)


class Turned(Case):
    def test_small_walks(self):
        web = Web(3, [(0, 1, 2), (1, 2, 1)])
        for walk in ([], [0], [2]):
            self.same(turned(web, walk, 1), web)
            self.same(turned(web, walk, -1), web)
        self.same(turned(web, [0, 2], 1).ties, ((0, 1, 2), (0, 2, 1), (1, 2, 1)))
        self.same(turned(web, [1, 0, 2], -1).ties, ((0, 1, 1), (0, 2, 1), (1, 2, 1)))
        self.same(turned(web, [0, 1, 2, 0], 1).ties, ((0, 1, 3), (0, 2, 1)))
        # Over a bundle there and back: both signs, nothing changes, also where there are no ties.
        self.same(turned(web, [0, 2, 0], -1), web)
        self.same(turned(web, [0, 2, 0, 2, 0, 2, 0], 1), web)
        self.same(turned(web, [0, 1, 0, 1], 1).ties, ((0, 1, 3), (1, 2, 1)))

    def test_against_pass_by_pass(self):
        rng = seeded(520)
        for _ in range(60):
            size = rng.randint(2, 6)
            web = random_web(rng, size, 4)
            walk = [rng.randrange(size)]
            for _ in range(rng.randint(0, 9)):
                walk.append(rng.choice([v for v in range(size) if v != walk[-1]]))
            sign = rng.choice((1, -1))
            numbers = {pair: web[pair] + sum(found for at, found in passes(walk, sign) if at == pair)
                       for pair in pairs_of(size)}
            below = [pair for pair in pairs_of(size) if numbers[pair] < 0]
            if below:
                self.fails(TooFew, {"pair": below[0]}, turned, web, walk, sign)
            else:
                self.same(turned(web, walk, sign), Web(size, [(u, v, n) for (u, v), n in numbers.items()]))
            self.same(web.size, size)

    def test_too_few(self):
        self.fails(TooFew, {"pair": (0, 1)}, turned, Web(3), [1, 0], -1)
        self.fails(TooFew, {"pair": (1, 2)}, turned, Web(3), [0, 1, 2], 1)
        # The least pair, wherever the walk comes to it.
        self.fails(TooFew, {"pair": (0, 2)}, turned, Web(4), [3, 2, 3, 1, 2, 0, 3], -1)
        self.fails(TooFew, {"pair": (0, 1)}, turned, Web(4), [2, 3, 0, 1], -1)
        # The passes over (0, 1) have the signs -1, 1, -1: with one tie there it is none in the end.
        self.fails(TooFew, {"pair": (0, 1)}, turned, Web(2), [0, 1, 0, 1], -1)
        self.same(turned(Web(2, [(0, 1, 1)]), [0, 1, 0, 1], -1), Web(2))

    def test_too_many(self):
        full = Web(3, [(0, 1, MOST), (1, 2, MOST - 1)])
        self.fails(TooMany, {"limit": MOST}, turned, full, [0, 1], 1)
        self.same(turned(full, [1, 2], 1)[1, 2], MOST)
        self.fails(TooMany, {"limit": MOST}, turned, turned(full, [1, 2], 1), [2, 1], 1)
        # Too few comes first, also for a greater pair.
        self.fails(TooFew, {"pair": (0, 2)}, turned, full, [1, 0, 2], 1)
        # There and back is not too many in the end.
        self.same(turned(full, [0, 1, 0], 1), full)

    def test_any_size(self):
        web, walk = complete(60, MOST), list(range(60))
        thin = Web(60, [(u, u + 1, 1) for u in range(1, 59, 2)])
        self.same(turned(thin, walk, 1), Web(60, [(u, u + 1, 1) for u in range(0, 59, 2)]))
        self.fails(TooFew, {"pair": (0, 1)}, turned, thin, walk, -1)
        self.fails(TooMany, {"limit": MOST}, turned, web, walk, 1)
        self.same(turned(web, [7, 59], -1)[59, 7], MOST - 1)

    def test_long_walks(self):
        # Six passes around a triangle change nothing; of the last five, only one at (0, 2) is left.
        self.same(turned(Web(3), [0, 1, 2] * 20000, 1).ties, ((0, 2, 1),))
        self.same(turned(Web(60), [0, 59] * 5000, 1).ties, ((0, 59, 1),))
        self.fails(TooFew, {"pair": (0, 2)}, turned, Web(3), [0, 1, 2] * 20000, -1)

    def test_arguments_stay(self):
        walk, web = [0, 1, 2], Web(3, [(1, 2, 1)])
        turned(web, walk, 1)
        self.same((walk, web.ties), ([0, 1, 2], ((1, 2, 1),)))


class Trails(Case):
    def check(self, one, other, step):
        found = trail(one, other, step)
        self.assertIs(type(found), list)
        self.truth(plain_is_trail(one, other, step, found), True, f"{one.ties} {other.ties} {step} {found}")
        self.truth(is_trail(one, other, step, found), True)
        last = (found[-1], passes(found, step[1])[-1][1])
        self.same(turned(one, found, step[1]).degrees, moved_by(one.degrees, [step, last]))
        opposites = [(place, -sign) for place, sign in (step, last)]
        self.same(turned(other, found, -step[1]).degrees, moved_by(other.degrees, opposites))
        return found

    def test_small_webs(self):
        rng = seeded(521)
        for _ in range(60):
            size = rng.randint(2, 5)
            one, other = random_web(rng, size, 3, 0.4), random_web(rng, size, 3, 0.4)
            for step in steps_towards(one.degrees, other.degrees):
                self.check(one, other, step)

    def test_all_pairs_of_choices(self):
        everything = choices(Web(4, [(0, 1, 1), (0, 2, 1), (1, 2, 1), (2, 3, 1), (1, 3, 1)]))
        for one, other in itertools.product(everything, repeat=2):
            for step in steps_towards(one.degrees, other.degrees):
                self.check(one, other, step)

    def test_large_webs(self):
        rng = seeded(522)
        for size in (6, 20, 60):
            one = random_web(rng, size, MOST, 0.97)
            other = one
            for _ in range(300):
                u, v = rng.sample(range(size), 2)
                other = other.changed(u, v, min(MOST, other[u, v] + rng.randint(0, 3)))
            for _ in range(100):
                u, v = rng.sample(range(size), 2)
                other = other.changed(u, v, max(0, other[u, v] - rng.randint(0, 1)))
            for step in steps_towards(one.degrees, other.degrees)[:10]:
                self.check(one, other, step)
                self.check(other, one, (step[0], -step[1]))

    def test_walks_through_the_place_of_the_step(self):
        self.same(self.check(Web(3, [(1, 2, 1)]), Web(3, [(0, 1, 1), (0, 2, 1)]), (0, 1))[0], 0)
        self.check(Web(2), Web(2, [(0, 1, 2)]), (1, 1))
        self.check(Web(2, [(0, 1, MOST)]), Web(2, [(0, 1, MOST - 1000)]), (0, -1))
        self.check(line(5, 3), ring(5, 2), (0, 1))

    def test_too_many(self):
        for size in (2, 3, 60):
            just, more = Web(size, [(0, 1, 1000)]), Web(size, [(0, 1, 1001)])
            self.check(Web(size), just, (0, 1))
            self.check(just, Web(size), (0, -1))
            self.fails(TooMany, {"limit": 1000}, trail, Web(size), more, (0, 1))
            self.fails(TooMany, {"limit": 1000}, trail, more, Web(size), (1, -1))
        parts = Web(4, [(0, 1, 500), (2, 3, 500)])
        self.check(parts, Web(4), (3, -1))
        self.fails(TooMany, {"limit": 1000}, trail, parts, Web(4, [(1, 2, 1)]), (3, -1))
        self.fails(TooMany, {"limit": 1000}, trail, complete(60, MOST), Web(60), (0, -1))

    def test_is_trail_has_no_limit(self):
        self.truth(is_trail(Web(2), Web(2, [(0, 1, 1001)]), (0, 1), [0, 1]), True)
        self.truth(is_trail(complete(60, MOST), Web(60), (0, -1), [0, 59]), True)
        self.truth(is_trail(complete(60, MOST), Web(60), (0, -1), [0, 59, 0]), False)

    def test_new_lists(self):
        found = trail(Web(2), Web(2, [(0, 1, 2)]), (0, 1))
        found.clear()
        self.check(Web(2), Web(2, [(0, 1, 2)]), (0, 1))


class IsTrail(Case):
    def test_against_the_words(self):
        rng = seeded(523)
        for size, longest, times in ((2, 5, 6), (3, 5, 8), (4, 4, 6)):
            for _ in range(times):
                one, other = random_web(rng, size, 2, 0.3), random_web(rng, size, 2, 0.3)
                for step in steps_towards(one.degrees, other.degrees)[:2]:
                    for walk in all_walks(size, longest):
                        self.truth(is_trail(one, other, step, walk), plain_is_trail(one, other, step, walk),
                                   f"{one.ties} {other.ties} {step} {walk}")

    def test_wrong_values(self):
        one, other, step = Web(3, [(1, 2, 1)]), Web(3, [(0, 1, 1), (0, 2, 1)]), (0, 1)
        right = [0, 1, 2, 0]
        self.truth(is_trail(one, other, step, right), True)
        wrong = [tuple(right), [], [0], [0, 1], [0, 1, 2], [1, 2, 0], [False, 1, 2, 0], [0, True, 2, 0], [0, 1, 2, False],
                 [0, 0, 1, 2, 0], [0, 1, 2, 3], [0, -2, 2, 0], [0, "1", 2, 0], [0, None, 2, 0], [0, Agreeing(), 2, 0],
                 [0, 1, 2, 0, 1], [0, 1, 2, 0, 2, 1, 0], [[0, 1, 2, 0]], Agreeing(), "0120", {0: 0}, [0, 10 ** 30]]
        for thing in wrong + list(NO_INTEGERS) + [0, 1, -1]:
            self.truth(is_trail(one, other, step, thing), False, repr(thing))

    def test_bundles_passed_twice(self):
        # Both passes over (0, 1) have the sign of the difference, one of them goes the other way.
        one, walk = Web(5, [(1, 2, 1), (1, 3, 1)]), [0, 1, 2, 3, 1, 0]
        for number in (1, 2, 3):
            other = Web(5, [(0, 1, number), (2, 3, 1), (0, 4, 1)])
            self.truth(is_trail(one, other, (0, 1), walk), number > 1)
            self.truth(plain_is_trail(one, other, (0, 1), walk), number > 1)
            self.truth(is_trail(other, one, (0, -1), walk), number > 1)

    def test_the_last_step_counts(self):
        # The walk fits, but there is nothing left to be raised at its end.
        one, other = Web(4, [(1, 2, 1)]), Web(4, [(0, 1, 1), (2, 3, 1)])
        self.truth(is_trail(one, other, (0, 1), [0, 1]), False)
        self.truth(is_trail(one, other, (0, 1), [0, 1, 2]), False)
        self.truth(is_trail(one, other, (0, 1), [0, 1, 2, 3]), True)
        # At the place of the step one tie more is asked for than the step gives.
        self.truth(is_trail(Web(3, [(1, 2, 1)]), Web(3, [(0, 1, 1), (0, 2, 1)]), (0, 1), [0, 2, 1, 0]), True)
        self.truth(is_trail(Web(2), Web(2, [(0, 1, 1)]), (0, 1), [0, 1, 0, 1]), False)


class Turns(Case):
    def check(self, one, other):
        found = turn(one, other)
        self.assertIs(type(found), list)
        self.truth(plain_is_turn(one, other, found), True, f"{one.ties} {other.ties} {found}")
        self.truth(is_turn(one, other, found), True)
        self.same(turned(one, found, 1), other)
        self.same(max(len(found) - 1, 0), sum(abs(one[pair] - other[pair]) for pair in pairs_of(one.size)))
        return found

    def test_all_choices_with_the_same_row(self):
        for web in (complete(4, 1), complete(4, 2), ring(5, 2), Web(5, [(0, 1, 1), (1, 2, 2), (0, 2, 1), (2, 3, 1), (3, 4, 1),
                                                                      (2, 4, 1), (0, 4, 1)])):
            for row in granted_rows(web)[::7]:
                for one, other in itertools.product(choices(web, row)[:6], repeat=2):
                    self.check(one, other)

    def test_five_places(self):
        rng = seeded(524)
        for row in rng.sample(granted_rows(complete(5, 1)), 40):
            kept = choices(complete(5, 1), row)
            for _ in range(5):
                self.check(rng.choice(kept), rng.choice(kept))

    def test_many_rounds(self):
        # Random closed walks by turns, one behind another, lead to webs with the same degrees.
        rng = seeded(525)
        for size in (4, 5):
            for _ in range(40):
                one = Web(size, [(u, v, rng.randint(50, 90)) for u, v in pairs_of(size)])
                other = one
                for _ in range(rng.randint(1, 30)):
                    a, b, c, d = rng.sample(range(size), 4)
                    other = turned(other, [a, b, c, d, a], 1)
                self.check(one, other)
                self.check(other, one)

    def test_two_triangles_at_a_place(self):
        one = Web(5, [(0, 1, 1), (0, 2, 1), (3, 4, 1)])
        other = Web(5, [(0, 3, 1), (0, 4, 1), (1, 2, 1)])
        self.same(len(self.check(one, other)), 7)
        self.same(len(self.check(9 * one, 9 * other)), 55)

    def test_equal_webs(self):
        for web in (Web(0), Web(1), Web(5), complete(5, MOST)):
            self.same(turn(web, web), [])
            self.truth(is_turn(web, web, []), True)
            for thing in ([0], [0, 1, 0], (), None):
                self.truth(is_turn(web, web, thing), False)

    def test_limits(self):
        just = Web(4, [(0, 1, 250), (2, 3, 250)]), Web(4, [(1, 2, 250), (0, 3, 250)])
        more = Web(4, [(0, 1, 251), (2, 3, 251)]), Web(4, [(1, 2, 251), (0, 3, 251)])
        self.same(len(self.check(*just)), 1001)
        self.fails(TooMany, {"limit": 1000}, turn, *more)
        self.fails(TooMany, {"limit": 1000}, turn, *more[::-1])
        far = MOST * ONE, MOST * OTHER
        self.fails(TooMany, {"limit": 1000}, turn, *far)
        self.truth(is_turn(*far, [0, 3, 2, 1, 0]), False)
        full = complete(4, MOST)
        self.check(full - ONE, full - OTHER)

    def test_unequal(self):
        for one, other in ((Web(2), Web(2, [(0, 1, 1)])), (ONE, 2 * ONE), (Web(0), Web(1)), (Web(3), Web(2)),
                           (complete(5, MOST), Web(5)), (line(4, 1), ring(4, 1))):
            self.fails(Unequal, {"one": one.degrees, "other": other.degrees}, turn, one, other)
            self.fails(Unequal, {"one": other.degrees, "other": one.degrees}, turn, other, one)
            for thing in ([], [0], [0, 1, 0], [0, 1]):
                self.truth(is_turn(one, other, thing), False)

    def test_the_order_of_errors(self):
        large, small = complete(6, MOST), Web(5)
        for one, other in ((large, small), (small, large), (large, large), (large, Web(6)), (Web(6), Web(6))):
            self.fails(TooMany, {"limit": 5}, turn, one, other)
        # Unequal comes ahead of the differences.
        self.fails(Unequal, {}, turn, Web(2, [(0, 1, 1001)]), Web(2))

    def test_new_lists(self):
        found = turn(ONE, OTHER)
        found.clear()
        self.check(ONE, OTHER)


class IsTurn(Case):
    def test_against_the_words(self):
        for one, other in ((ONE, OTHER), (OTHER, ONE), (ONE, ONE), (2 * ONE, ONE + OTHER), (2 * ONE, 2 * OTHER)):
            for walk in all_walks(4, 5):
                self.truth(is_turn(one, other, walk), plain_is_turn(one, other, walk), f"{one.ties} {other.ties} {walk}")

    def test_all_of_the_differences_count(self):
        self.truth(is_turn(2 * ONE, 2 * OTHER, [0, 3, 2, 1, 0]), False)
        self.truth(is_turn(2 * ONE, 2 * OTHER, [0, 3, 2, 1, 0, 3, 2, 1, 0]), True)
        self.truth(is_turn(ONE, OTHER, [0, 3, 2, 1, 0, 3, 2, 1, 0]), False)
        self.truth(is_turn(ONE, OTHER, [0, 1, 2, 3, 0]), False)
        self.truth(is_turn(OTHER, ONE, [0, 1, 2, 3, 0]), True)
        # A closed walk with an odd number of passes leads to the other web, but the degrees differ.
        one, other = Web(3, [(1, 2, 1)]), Web(3, [(0, 1, 1), (0, 2, 1)])
        self.same(turned(one, [0, 1, 2, 0], 1), other)
        self.truth(is_turn(one, other, [0, 1, 2, 0]), False)
        self.truth(is_turn(other, one, [1, 2, 0, 1]), False)
        # There and back beside the turn changes nothing, but does not fit.
        self.truth(is_turn(ONE, OTHER, [0, 3, 2, 1, 0, 2, 0]), False)

    def test_wrong_values(self):
        wrong = [(0, 3, 2, 1, 0), [], [0], [False, 3, 2, 1, 0], [0, 3, 2, True, 0], [0, 3, 2, 1, False], [0, 3, 2, 1],
                 [0, 3, 2, 1, 4], [0, -1, 2, 1, 0], [0, 3, 2, 1, "0"], [0, 3, 2, 1, None], [0, 3, 2, 1, Agreeing()],
                 [[0, 3, 2, 1, 0]], Agreeing(), [0, 0, 3, 2, 1, 0], "03210"]
        self.truth(is_turn(ONE, OTHER, [0, 3, 2, 1, 0]), True)
        for thing in wrong + list(NO_INTEGERS) + [0, 1, -1]:
            self.truth(is_turn(ONE, OTHER, thing), False, repr(thing))
            self.truth(is_turn(ONE, ONE, thing), isinstance(thing, list) and not thing, repr(thing))

    def test_webs_of_any_size(self):
        rng = seeded(526)
        for size in (6, 60):
            one = random_web(rng, size, MOST - 1, 0.9)
            a, b, c, d = rng.sample(range(size), 4)
            one = one.changed(b, c, 7).changed(d, a, 7)
            other = turned(one, [a, b, c, d, a], 1)
            self.truth(is_turn(one, other, [a, b, c, d, a]), True)
            self.truth(is_turn(one, other, [a, d, c, b, a]), False)
            self.truth(is_turn(one, one, []), True)
        # Two webs side by side may differ by a turn in each: no single walk leads from one to the other.
        left = Web(8, [(0, 1, 1), (2, 3, 1), (4, 5, 1), (6, 7, 1)])
        right = Web(8, [(1, 2, 1), (0, 3, 1), (5, 6, 1), (4, 7, 1)])
        self.truth(is_turn(left, right, [0, 3, 2, 1, 0]), False)
        self.truth(is_turn(left, turned(left, [0, 3, 2, 1, 0], 1), [0, 3, 2, 1, 0]), True)


if __name__ == "__main__":
    unittest.main()
