"""[2], [3], [4], [70]: cells and strips."""

import inspect
import itertools
import unittest

from contentties.cells import Cell, Strip
from contentties.drafts import Draft
from contentties.errors import TooMany, Wrong
from contentties.wants import Want
from contentties.webs import Web
from tests.helpers import NO_INTEGERS, Agreeing, Case, random_strip, seeded

ONE, OTHER = Want(0, 3), Want(9)
NARROW, WIDE = Cell([ONE]), Cell([ONE, OTHER], 4)
EMPTY = ((0, 0), (0, 0))


def plain_strip_web(strip, count):
    """The web of a strip, bundle by bundle as the document tells it."""
    width, cells = len(strip.head), [strip.head] + [strip.cell] * count + [strip.tail]
    ties = []
    for at, cell in enumerate(cells):
        if width == 2:
            ties.append((at * 2, at * 2 + 1, cell.inner))
        if at + 1 < len(cells):
            ties.extend((at * width + i, (at + 1) * width + j, strip.onward[i][j])
                        for i in range(width) for j in range(width))
    return Web(len(cells) * width, ties)


class Made(Case):
    def test_cells(self):
        for wants in ([ONE], (ONE,), [ONE, OTHER], (OTHER, ONE), (Want.between(0, 9), Want.stepped(1, 9))):
            for inner in range(7 if len(wants) == 2 else 1):
                cell = Cell(wants, inner)
                self.same((cell.wishes, cell.inner, len(cell)), (tuple(wants), inner, len(wants)))
        self.same((Cell([ONE, OTHER]).inner, Cell((ONE,)).inner), (0, 0))

    def test_arguments(self):
        self.assertEqual(list(inspect.signature(Cell).parameters), ["wants", "inner"])
        self.assertEqual(inspect.signature(Cell).parameters["inner"].default, 0)
        self.assertEqual(list(inspect.signature(Strip).parameters), ["head", "cell", "tail", "onward"])
        self.assertEqual(Cell(wants=[ONE, OTHER], inner=2).inner, 2)
        self.assertEqual(Strip(head=NARROW, cell=NARROW, tail=NARROW, onward=[[2]]).onward, ((2,),))
        for kind, names in ((Cell, "__init__ __len__ __eq__"),
                            (Strip, "__init__ __eq__ web_of wants_of mirrored")):
            for name in names.split():
                self.assertIn(name, vars(kind))
            self.assertEqual(kind.__module__, "contentties.cells")
        for name in ("web_of", "wants_of"):
            self.assertEqual(list(inspect.signature(getattr(Strip, name)).parameters), ["self", "count"])
        self.assertLessEqual({"wishes", "inner"}, set(vars(NARROW)))
        strip = Strip(NARROW, NARROW, NARROW, [[1]])
        self.assertLessEqual({"head", "cell", "tail", "onward", "width"}, set(vars(strip)))

    def test_wrong_wants(self):
        for thing in NO_INTEGERS + (0, 3, [], (), [ONE] * 3, (ONE,) * 8000, [Want()], [ONE, Want()], [Want(), ONE], [[ONE]],
                                    (3,), [3], [0, 3], [(0, 3)], [ONE, 3], [None, ONE], [Want(-1)], [Want(10)],
                                    [Want(0, 10)], [ONE, Want(-1, 5)], [Want.between(0, 10)], [Want.stepped(-2, 8)],
                                    {0: ONE}, iter([ONE]), Agreeing(), [Agreeing()], NARROW, [NARROW], "a", [True],
                                    [Web(1)], Draft(Web(1)), [ONE + 10 ** 12], [-ONE]):
            self.fails(Wrong, {"place": 0}, Cell, thing)
            self.fails(Wrong, {"place": 0}, Cell, thing, 7)
            self.fails(Wrong, {"place": 0}, Cell, thing, None)

    def test_wrong_inner_ties(self):
        for thing in NO_INTEGERS + (7, -1, 10 ** 60, -10 ** 60, Agreeing(), NARROW):
            self.fails(Wrong, {"place": 1}, Cell, [ONE, OTHER], thing)
            self.fails(Wrong, {"place": 1}, Cell, [ONE], thing)
        for inner in range(1, 7):
            self.fails(Wrong, {"place": 1}, Cell, [ONE], inner)
            self.fails(Wrong, {"place": 1}, Cell, (OTHER,), inner)

    def test_strips(self):
        for width, cells, onward in ((1, (NARROW, Cell([OTHER]), Cell([Want(1)])), [[6]]),
                                     (2, (WIDE, Cell([OTHER, ONE]), Cell([ONE, ONE], 6)), ([0, 6], (1, 2)))):
            strip = Strip(*cells, onward)
            self.same(strip.onward, tuple(tuple(numbers) for numbers in onward))
            self.same(strip.width, width)
            self.assertEqual([strip.head, strip.cell, strip.tail], list(cells))

    def test_wrong_strips(self):
        good = (WIDE, WIDE, WIDE, [[1, 2], [3, 4]])
        for thing in NO_INTEGERS + (0, [WIDE], (WIDE,), Agreeing(), [ONE, OTHER], ONE, {0: WIDE}):
            for place in range(3):
                self.fails(Wrong, {"place": place}, Strip, *good[:place], thing, *good[place + 1:])
                self.fails(Wrong, {"place": place}, Strip, *good[:place], *[thing] * (4 - place))
        # Cells of another length than the head.
        for place in (1, 2):
            self.fails(Wrong, {"place": place}, Strip, *good[:place], NARROW, *good[place + 1:])
            self.fails(Wrong, {"place": place}, Strip, *good[:place], NARROW, *[None] * (3 - place))
        self.fails(Wrong, {"place": 1}, Strip, NARROW, WIDE, WIDE, [[1]])
        self.fails(Wrong, {"place": 2}, Strip, NARROW, NARROW, WIDE, [[1]])
        self.fails(Wrong, {"place": 3}, Strip, NARROW, NARROW, NARROW, good[3])

    def test_wrong_onward_ties(self):
        for thing in NO_INTEGERS + (0, 1, [], [[1, 2]], [[1, 2]] * 3, [[1], [2]], [[1, 2], [3]], [[1, 2, 3], [1, 2, 3]],
                                    [[1, 2], 3], [1, 2], [[1, 2], "34"], ["12", "34"], [[1, 2], None], [[1, 7], [0, 0]],
                                    [[1, 2], [-1, 0]], [[1, 2], [0, True]], [[False, 2], [0, 1]], [[1, 2], ["3", 4]],
                                    [[1, 2], {3: 3, 4: 4}], {0: [1, 2], 1: [3, 4]}, iter([[1, 2], [3, 4]]), Agreeing(),
                                    [Agreeing(), [1, 2]], [[1, 2], [Agreeing(), 1]], [[1, 2], [10 ** 60, 1]],
                                    [[[1, 2], [3, 4]]], ONE, WIDE, ((1, 2), {3, 4}), [[1, 2], [[3], 4]]):
            self.fails(Wrong, {"place": 3}, Strip, WIDE, WIDE, WIDE, thing)
        for thing in NO_INTEGERS + (1, [], [1], [[]], [[1, 2]], [[7]], [[-1]], [[True]], [["1"]], [[1], [1]], [None], "1"):
            self.fails(Wrong, {"place": 3}, Strip, NARROW, NARROW, NARROW, thing)

    def test_copies_what_it_is_given(self):
        wants, onward = [ONE, OTHER], [[1, 2], [3, 4]]
        cell = Cell(wants, 1)
        strip = Strip(cell, cell, cell, onward)
        wants[0] = Want(5)
        onward[0][0] = 6
        onward.pop()
        self.same(cell.wishes, (ONE, OTHER))
        self.same(strip.onward, ((1, 2), (3, 4)))


class Equal(Case):
    def test_cells(self):
        kinds = [Cell(wants, inner) for wants in ([ONE], [OTHER], [ONE, OTHER], [OTHER, ONE], [ONE, ONE])
                 for inner in ((0, 3, 6) if len(wants) == 2 else (0,))]
        for i, one in enumerate(kinds):
            for j, other in enumerate(kinds):
                self.truth(one == other, i == j)
                self.truth(one != other, i != j)
        self.truth(Cell([Want(3, 0), OTHER], 4) == WIDE, True)
        self.truth(Cell((Want(0) | Want(3),)) == NARROW, True)

    def test_strips(self):
        cells = [NARROW, Cell([OTHER])]
        kinds = [Strip(*three, [[number]]) for three in itertools.product(cells, repeat=3) for number in (0, 5)]
        kinds.extend(Strip(WIDE, WIDE, WIDE, onward) for onward in (EMPTY, ((0, 1), (0, 0)), ((0, 0), (1, 0))))
        for i, one in enumerate(kinds):
            for j, other in enumerate(kinds):
                self.truth(one == other, i == j)
                self.truth(one != other, i != j)
        self.truth(Strip(NARROW, NARROW, NARROW, [[1]]) == Strip(Cell((ONE,)), NARROW, NARROW, ((1,),)), True)

    def test_other_things(self):
        strip = Strip(NARROW, NARROW, NARROW, [[1]])
        for thing in NO_INTEGERS + (0, 1, ONE, (ONE,), [ONE], strip.onward):
            self.truth(NARROW == thing, False)
            self.truth(WIDE == thing, False)
            self.truth(strip == thing, False)
            self.truth(strip != thing, True)
        self.truth(NARROW == strip, False)
        self.truth(strip == NARROW, False)


class Strips(Case):
    def test_webs_and_wants(self):
        rng = seeded(160)
        for width in (1, 2, 1, 2, 2):
            strip = random_strip(rng, width)
            for count in (0, 1, 2, 5):
                web, wants = strip.web_of(count), strip.wants_of(count)
                self.assertIs(type(web), Web)
                self.assertEqual(web, plain_strip_web(strip, count))
                self.assertIs(type(wants), tuple)
                self.same(wants, strip.head.wishes + strip.cell.wishes * count + strip.tail.wishes)
                self.same((web.size, len(wants)), ((count + 2) * width,) * 2)

    def test_bundles_by_hand(self):
        strip = Strip(Cell([ONE, ONE], 1), Cell([ONE, ONE], 2), Cell([ONE, ONE], 3), [[4, 5], [0, 6]])
        self.same(strip.web_of(0).ties, ((0, 1, 1), (0, 2, 4), (0, 3, 5), (1, 3, 6), (2, 3, 3)))
        self.same(strip.web_of(1).ties, ((0, 1, 1), (0, 2, 4), (0, 3, 5), (1, 3, 6), (2, 3, 2), (2, 4, 4), (2, 5, 5),
                                         (3, 5, 6), (4, 5, 3)))
        line = Strip(NARROW, Cell([OTHER]), NARROW, [[2]])
        self.same(line.web_of(2).ties, ((0, 1, 2), (1, 2, 2), (2, 3, 2)))
        self.same(Strip(NARROW, NARROW, NARROW, [[0]]).web_of(3), Web(5))

    def test_sixty_places(self):
        narrow, wide = Strip(NARROW, NARROW, NARROW, [[1]]), Strip(WIDE, WIDE, WIDE, [[1, 0], [2, 3]])
        self.assertEqual(narrow.web_of(58), plain_strip_web(narrow, 58))
        self.assertEqual(wide.web_of(28), plain_strip_web(wide, 28))
        self.same((narrow.web_of(58).size, wide.web_of(28).size), (60, 60))
        for count in (59, 60, 100, 4000, 10 ** 9):
            self.fails(TooMany, {"limit": 60}, narrow.web_of, count)
        for count in (29, 30, 58, 2000, 10 ** 9):
            self.fails(TooMany, {"limit": 60}, wide.web_of, count)
        self.same(len(narrow.wants_of(4000)), 4002)
        self.same(len(wide.wants_of(2000)), 4004)

    def test_mirrored(self):
        rng = seeded(161)
        for width in (1, 2, 2, 2):
            strip = random_strip(rng, width)
            other = strip.mirrored()
            self.assertIs(type(other), Strip)
            self.assertEqual([other.head, other.cell, other.tail], [strip.tail, strip.cell, strip.head])
            for i, j in itertools.product(range(width), repeat=2):
                self.same(other.onward[i][j], strip.onward[j][i])
            self.same((other.width, type(other.onward)), (width, tuple))
            self.assertEqual(other.mirrored(), strip)
        strip = Strip(WIDE, WIDE, Cell([OTHER, OTHER]), [[1, 2], [3, 4]])
        self.assertEqual(strip.mirrored(), Strip(strip.tail, WIDE, WIDE, [[1, 3], [2, 4]]))
        self.same(strip.onward, ((1, 2), (3, 4)))

    def test_mirrored_webs(self):
        # Read from the other end, each cell by itself stands as it was.
        rng = seeded(162)
        for width in (1, 2):
            strip = random_strip(rng, width)
            for count in (0, 1, 3):
                order = {at * width + i: (count + 1 - at) * width + i for at in range(count + 2) for i in range(width)}
                web = strip.web_of(count)
                named = Web(web.size, [(order[u], order[v], number) for u, v, number in web.ties])
                self.assertEqual(strip.mirrored().web_of(count), named)


if __name__ == "__main__":
    unittest.main()
