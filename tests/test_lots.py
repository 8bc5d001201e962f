"""[2], [3], [4], [9], [12], [40]: lots."""

import inspect
import itertools
import unittest

from contentties import lots as lots_file
from contentties.drafts import Draft
from contentties.lots import (
    distance, every_lots, excess, is_choice, is_lots, is_row, odd_pieces, parity, pieces,
)
from contentties.shapes import complete, line, moved, renamed, ring
from contentties.webs import Web
from tests.helpers import (
    NO_INTEGERS, Agreeing, Case, all_choices, plain_excess, plain_lots, plain_pieces, random_row, random_web, same,
    seeded,
)

MOST = 10 ** 9
WEB = Web(3, [(0, 1, 2), (2, 1, 1)])


class Interface(Case):
    def test_names_and_arguments(self):
        for name, arguments in {
            "is_row": ["web", "thing"], "is_lots": ["web", "thing"], "is_choice": ["web", "row", "thing"],
            "parity": ["row"], "distance": ["one", "other"], "every_lots": ["size"], "pieces": ["web", "lots"],
            "odd_pieces": ["web", "row", "lots"], "excess": ["web", "row", "lots"],
        }.items():
            call = getattr(lots_file, name)
            self.assertEqual(list(inspect.signature(call).parameters), arguments)
            self.assertEqual(call.__module__, "contentties.lots")

    def test_example(self):
        self.same([excess(WEB, (2, 1, 1), ((1,), (0,))), odd_pieces(WEB, (2, 1, 1), ((1,), (0,)))], [-2, [(2,)]])


class Rows(Case):
    def test_rows(self):
        for row in ((0, 0, 0), (-5, 10 ** 12, 3), (10 ** 60, 0, -10 ** 60), (1, 1, 1)):
            self.truth(is_row(WEB, row), True)
        self.truth(is_row(Web(0), ()), True)
        self.truth(is_row(Web(60), (0,) * 60), True)

    def test_no_rows(self):
        for thing in NO_INTEGERS + (0, [0, 0, 0], (0, 0), (0, 0, 0, 0), (0, 0, True), (False, 0, 0), (0, "0", 0),
                                    "000", {0: 0, 1: 0, 2: 0}, range(3), Agreeing()):
            if not same(thing, (0, 1, 2)):
                self.truth(is_row(WEB, thing), False, repr(thing))
        for value in NO_INTEGERS:
            for at in range(3):
                self.truth(is_row(WEB, (0,) * at + (value,) + (0,) * (2 - at)), False, repr(value))
        for thing in ([], None, 0, (0,), "", {}, False):
            self.truth(is_row(Web(0), thing), False, repr(thing))

    def test_parity_and_distance(self):
        for row in itertools.product(range(-2, 3), repeat=3):
            self.same(parity(row), sum(row) % 2)
            for other in ((0, 0, 0), (1, -2, 5), row):
                self.same(distance(row, other), sum(abs(a - b) for a, b in zip(row, other)))
        self.same((parity(()), distance((), ())), (0, 0))
        self.same(parity((-1,)), 1)
        self.same(distance((-10 ** 12, 10 ** 12), (10 ** 12, -10 ** 12)), 4 * 10 ** 12)
        self.same((distance((1, 5), (4, 3)), distance((4, 3), (1, 5))), (5, 5))


class Choices(Case):
    def test_every_choice_of_a_web(self):
        for web in (WEB, complete(3, 2), Web(2), Web(0), Web(1)):
            for kept in all_choices(web):
                self.truth(is_choice(web, kept.degrees, kept), True)
                self.truth(is_choice(web, tuple(d + 1 for d in kept.degrees), kept), kept.degrees == ())
        self.truth(is_choice(complete(60, MOST), (59 * MOST,) * 60, complete(60, MOST)), True)

    def test_no_choices(self):
        row = (1, 2, 1)
        good = Web(3, [(0, 1, 1), (1, 2, 1)])
        self.truth(is_choice(WEB, row, good), True)
        for thing in NO_INTEGERS + (0, Draft(good), good.ties, (1, 2, 1), Web(4, good.ties), Web(3), WEB, Agreeing(),
                                    Web(3, [(0, 1, 1), (1, 2, 2)]), [good], (good,)):
            self.truth(is_choice(WEB, row, thing), False, repr(thing))
        # The row is right, but a bundle is greater, or there is one that the web has not.
        self.truth(is_choice(WEB, (0, 2, 2), Web(3, [(1, 2, 2)])), False)
        self.truth(is_choice(WEB, (1, 0, 1), Web(3, [(0, 2, 1)])), False)
        self.truth(is_choice(WEB, (3, 3, 0), Web(3, [(0, 1, 3)])), False)


class Lots(Case):
    def test_all_lots(self):
        for size in range(6):
            web = Web(size)
            for lots in plain_lots(size):
                self.truth(is_lots(web, lots), True)
        self.truth(is_lots(Web(60), (tuple(range(0, 60, 2)), tuple(range(1, 60, 2)))), True)

    def test_no_lots(self):
        for thing in NO_INTEGERS + (
            0, ((0,),), ((0,), (1,), (2,)), [(0,), (1,)], ((0,), [1]), ([0], (1,)), ((0,), (0,)), ((1, 0), ()),
            ((), (2, 1)), ((0, 0), ()), ((), (1, 1)), ((3,), ()), ((), (-1,)), ((0, 3), (1,)), ((0, 1), (1, 2)),
            ((False,), ()), ((True,), (0,)), ((), (0, True)), ((0,), 1), (0, (1,)), ((0,), None), ("0", "1"), ("", ""),
            ((None,), ()), (("0",), ()), ((0, None), ()), (((0,),), ()), Agreeing(), (Agreeing(), ()), ((Agreeing(),), ()),
        ):
            self.truth(is_lots(WEB, thing), False, repr(thing))
        for value in NO_INTEGERS:
            if not same(value, ()):
                self.truth(is_lots(WEB, ((value,), ())), False, repr(value))
                self.truth(is_lots(WEB, ((0,), (1, value))), False, repr(value))
        self.truth(is_lots(Web(0), ((), ())), True)
        self.truth(is_lots(Web(0), ((0,), ())), False)

    def test_every_lots(self):
        for size in range(6):
            found = list(every_lots(size))
            self.same(found, list(plain_lots(size)))
            self.same(len(found), 3 ** size)
            marks = [[1 if v in s else 2 if v in t else 0 for v in range(size)] for s, t in found]
            self.same(marks, sorted(marks))
        self.same(list(every_lots(0)), [((), ())])
        self.same(list(every_lots(1)), [((), ()), ((0,), ()), ((), (0,))])
        self.same([lots for lots in every_lots(2)][3], ((0,), ()))


class Pieces(Case):
    def test_small_webs(self):
        rng = seeded(42)
        for _ in range(60):
            web = random_web(rng, rng.randint(0, 5), 3, empty=0.5)
            row = random_row(rng, web)
            for lots in plain_lots(web.size):
                self.same(pieces(web, lots), plain_pieces(web, lots))
                odd = [piece for piece in plain_pieces(web, lots)
                       if (sum(row[v] for v in piece) + web.crossing(piece, lots[1])) % 2]
                self.same(odd_pieces(web, row, lots), odd)
                self.same(excess(web, row, lots), plain_excess(web, row, lots))

    def test_large_webs(self):
        rng = seeded(43)
        for size in (20, 41, 60):
            for empty in (0.9, 0.97, 0.99):
                web = random_web(rng, size, MOST, empty)
                row = random_row(rng, web, 10 ** 12)
                marks = [rng.choice((0, 0, 1, 2)) for _ in range(size)]
                lots = tuple(tuple(v for v in range(size) if marks[v] == mark) for mark in (1, 2))
                self.same(pieces(web, lots), plain_pieces(web, lots))
                self.same(excess(web, row, lots), plain_excess(web, row, lots))

    def test_edges(self):
        self.same(pieces(Web(0), ((), ())), [])
        self.same((odd_pieces(Web(0), (), ((), ())), excess(Web(0), (), ((), ()))), ([], 0))
        self.same(pieces(Web(3), ((), ())), [(0,), (1,), (2,)])
        self.same(pieces(Web(3), ((0, 2), (1,))), [])
        self.same(pieces(ring(60, 1), ((0, 30), ())), [tuple(range(1, 30)), tuple(range(31, 60))])
        self.same(pieces(line(60, MOST), ((), ())), [tuple(range(60))])
        # Places that come together only by way of a later one.
        self.same(pieces(Web(5, [(0, 3, 1), (1, 4, 1), (3, 4, 1)]), ((), (2,))), [(0, 1, 3, 4)])
        self.same([excess(Web(1), (x,), lots) for x in (0, 3) for lots in every_lots(1)], [0, 0, 0, -1, 3, -3])

    def test_two_places_of_t_count_their_ties_twice(self):
        web = Web(2, [(0, 1, 7)])
        self.same(excess(web, (3, 4), ((), (0, 1))), 7)
        self.same(excess(web, (3, 4), ((0,), (1,))), -1)
        self.same(excess(web, (-10 ** 12, 10 ** 12), ((0,), (1,))), -2 * 10 ** 12)

    def test_returned_lists_are_new(self):
        lots = ((), (1,))
        pieces(WEB, lots).clear()
        odd_pieces(WEB, (1, 1, 1), lots).clear()
        self.same((pieces(WEB, lots), odd_pieces(WEB, (1, 1, 0), lots)), ([(0,), (2,)], [(0,), (2,)]))

    def test_mirrors(self):
        rng = seeded(44)
        for _ in range(40):
            web = random_web(rng, rng.randint(0, 5), 4)
            row = random_row(rng, web)
            mirrored = tuple(d - x for d, x in zip(web.degrees, row))
            for s, t in every_lots(web.size):
                self.same(excess(web, row, (s, t)), excess(web, mirrored, (t, s)))

    def test_other_names(self):
        rng = seeded(45)
        for _ in range(30):
            web = random_web(rng, 5, 4, 0.5)
            row = random_row(rng, web)
            order = tuple(rng.sample(range(5), 5))
            for lots in every_lots(5):
                named = tuple(tuple(sorted(order[v] for v in some)) for some in lots)
                self.same(excess(renamed(web, order), moved(row, order), named), excess(web, row, lots))

    def test_excess_has_the_parity_of_the_row(self):
        rng = seeded(46)
        for _ in range(40):
            web = random_web(rng, rng.randint(0, 5), 4)
            row = random_row(rng, web)
            for lots in every_lots(web.size):
                self.same(excess(web, row, lots) % 2, parity(row))


if __name__ == "__main__":
    unittest.main()
