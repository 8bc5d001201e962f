"""[14], [71]: lengths."""

import inspect
import itertools
import unittest

from contentties import lengths as lengths_file
from contentties.cells import Cell, Strip
from contentties.lengths import lengths, strip_excess, worst_at
from contentties.lots import excess, is_lots, is_row
from contentties.wants import Want
from contentties.worst import every, has_row, worst
from tests.helpers import Case, mild_strip, plain_excess, random_strip, seeded

RISE = Strip(Cell([Want(2)]), Cell([Want(4, 5)]), Cell([Want(2)]), [[6]])
EVEN = Strip(Cell([Want(1)]), Cell([Want(2)]), Cell([Want(1)]), [[2]])


def random_lots(rng, size):
    marks = [rng.choice("nnst") for _ in range(size)]
    return tuple(tuple(v for v in range(size) if marks[v] == mark) for mark in "st")


class Interface(Case):
    def test_names_and_arguments(self):
        for name, arguments in {"strip_excess": ["strip", "count", "row", "lots"],
                                "worst_at": ["strip", "count", "parity"], "lengths": ["strip"]}.items():
            call = getattr(lengths_file, name)
            self.assertEqual(list(inspect.signature(call).parameters), arguments)
            self.assertEqual(call.__module__, "contentties.lengths")

    def test_example(self):
        self.same([lengths(RISE)[:3], strip_excess(RISE, 3, (2, 5, 4, 5, 2), ((0, 2, 4), (1, 3))),
                   worst_at(RISE, 2, 0)[0]], [("barred", 3, (2, 5, 4, 5, 2)), -2, 0])
        self.same([lengths(EVEN), lengths(Strip(EVEN.head, EVEN.cell, EVEN.cell, EVEN.onward)), worst_at(EVEN, 5, 1)],
                  [("every",), ("none",), None])


class StripExcess(Case):
    def test_against_excess(self):
        rng = seeded(170)
        for width in (1, 2):
            for _ in range(40):
                strip = random_strip(rng, width, ties=(0, 0, 1, 2, 3, 6))
                for count in (0, 1, 2, 3, 6):
                    web = strip.web_of(count)
                    row = tuple(rng.randint(-9, 19) for _ in range(web.size))
                    lots = random_lots(rng, web.size)
                    self.same(strip_excess(strip, count, row, lots), excess(web, row, lots))
                    self.same(strip_excess(strip, count, row, lots), plain_excess(web, row, lots))

    def test_all_lots_of_short_strips(self):
        rng = seeded(171)
        for width, count in ((1, 0), (1, 1), (1, 2), (2, 0), (2, 1)):
            for _ in range(6 if width == 1 else 2):
                strip = random_strip(rng, width, ties=(0, 1, 2))
                web = strip.web_of(count)
                row = tuple(rng.randint(0, 9) for _ in range(web.size))
                for marks in itertools.product("nst", repeat=web.size):
                    lots = tuple(tuple(v for v in range(web.size) if marks[v] == mark) for mark in "st")
                    self.same(strip_excess(strip, count, row, lots), plain_excess(web, row, lots))

    def test_sixty_places(self):
        rng = seeded(172)
        for width, count in ((1, 58), (2, 28)):
            for _ in range(4):
                strip = random_strip(rng, width)
                row = tuple(rng.randint(-10 ** 12, 10 ** 12) for _ in range(60))
                lots = random_lots(rng, 60)
                self.same(strip_excess(strip, count, row, lots), plain_excess(strip.web_of(count), row, lots))

    def test_long_strips(self):
        # All in t: each tie counts twice; all in s; all in neither, one piece or many.
        for width, count in ((1, 4000), (2, 2000)):
            onward = [[1] * width for _ in range(width)]
            cell = Cell([Want(2)] * width, 3 if width == 2 else 0)
            strip, size = Strip(cell, cell, cell, onward), (count + 2) * width
            ties = (count + 1) * width * width + (3 * (count + 2) if width == 2 else 0)
            row, places = (2,) * size, tuple(range(size))
            self.same(strip_excess(strip, count, row, ((), places)), 2 * ties - 2 * size)
            self.same(strip_excess(strip, count, row, (places, ())), 2 * size)
            self.same(strip_excess(strip, count, row, ((), ())), 0)
            self.same(strip_excess(strip, count, (1, *row[1:]), ((), ())), -1)
            self.same(strip_excess(strip, count, (1,) * size, (places[:width], ())), width - (count + 1) * width % 2)
            lonely = Strip(cell, cell, cell, [[0] * width for _ in range(width)])
            self.same(strip_excess(lonely, count, (1,) * size, ((), ())), -size if width == 1 else 0)
            if width == 1:
                # Every other place in s, the others pieces of their own, or in t.
                self.same(strip_excess(strip, count, (1,) * size, (places[::2], ())), size // 2 - size // 2)
                self.same(strip_excess(strip, count, (1,) * size, (places[::2], places[1::2])), 0)
                self.same(strip_excess(strip, count, (1,) * size, (places[1::2], places[::2])), 0)

    def test_does_not_change_its_arguments(self):
        row, lots = (2, 5, 4, 5, 2), ((0, 2, 4), (1, 3))
        self.same([strip_excess(RISE, 3, row, lots) for _ in range(3)], [-2] * 3)


class WorstAt(Case):
    def told(self, strip, count, parity):
        """The row is from the wants, its excess with the lots minus the amount; the amount is returned."""
        found = worst_at(strip, count, parity)
        if found is None:
            return None
        self.assertEqual((type(found), len(found)), (tuple, 3))
        amount, row, lots = found
        size = (count + 2) * strip.width
        self.assertEqual((type(row), len(row)), (tuple, size))
        self.assertTrue(all(type(item) is int and item in want for item, want in zip(row, strip.wants_of(count))))
        self.same(sum(row) % 2, parity)
        self.assertTrue(all(places == tuple(sorted(set(places))) for places in lots))
        self.assertEqual((type(lots), len(lots), set(lots[0]) & set(lots[1])), (tuple, 2, set()))
        self.same(strip_excess(strip, count, row, lots), -amount)
        if size <= 60:
            self.truth(is_row(strip.web_of(count), row), True)
            self.truth(is_lots(strip.web_of(count), lots), True)
        return amount

    def test_short_strips(self):
        rng = seeded(173)
        for width, counts, times in ((1, (0, 1, 2, 3), 50), (2, (0,), 60)):
            for _ in range(times):
                strip = rng.choice((random_strip, mild_strip))(rng, width)
                for count in counts:
                    for parity in (0, 1):
                        expected = worst(strip.web_of(count), strip.wants_of(count), parity)
                        amount = self.told(strip, count, parity)
                        self.same(amount, None if expected is None else expected[0])

    def test_by_all_rows_and_lots(self):
        # Two places a cell and one cell between head and tail are too many places for worst.
        rng = seeded(174)
        for _ in range(3):
            strip = random_strip(rng, 2, many=2, ties=(0, 1, 2))
            web, wants = strip.web_of(1), strip.wants_of(1)
            rows = list(itertools.product(*[want.first(3) for want in wants]))[::5][:8]
            for row in rows:
                amount = self.told(strip, 1, sum(row) % 2)
                for marks in itertools.product("nst", repeat=6):
                    lots = tuple(tuple(v for v in range(6) if marks[v] == mark) for mark in "st")
                    self.assertGreaterEqual(amount, -excess(web, row, lots))

    def test_no_row_of_a_parity(self):
        for count in range(6):
            self.same(worst_at(EVEN, count, 1), None)
            self.assertIsNotNone(worst_at(EVEN, count, 0))
            other = Strip(EVEN.head, Cell([Want(1, 3)]), EVEN.tail, [[2]])
            self.same([worst_at(other, count, parity) is None for parity in (0, 1)], [count % 2 == 1, count % 2 == 0])

    def test_long_strips(self):
        self.same(self.told(RISE, 3, 0), 2)
        for count in (10, 999, 1000):
            self.assertGreater(self.told(RISE, count, 0), 0)
            self.same(self.told(EVEN, count, 0), 0)
            self.same(self.told(EVEN, count, 1), None)
        lonely = Strip(Cell([Want(3)]), Cell([Want(1, 4)]), Cell([Want(2)]), [[0]])
        self.same([self.told(lonely, 1000, parity) for parity in (0, 1)], [3 + 2 + 999 * 4 + 1, 3 + 2 + 1000 * 4])
        full = Cell([Want(9), Want(8, 9)], 1)
        wide = Strip(full, full, full, EMPTY_TWO)
        self.same([self.told(wide, 100, parity) for parity in (0, 1)], [102 * 16, 102 * 16 - 1])

    def test_mirrors(self):
        rng = seeded(175)
        for width in (1, 2):
            for _ in range(10):
                strip = random_strip(rng, width)
                for count in (0, 1, 5):
                    for parity in (0, 1):
                        self.same(self.told(strip, count, parity), self.told(strip.mirrored(), count, parity))


def plain_behind(strip, cell, needs, row):
    """What each place of a cell may still need, by all ways to keep ties to the last cell and in the cell.

    needs are the tuples of what the places of the last cell may still need, all of which is kept here.
    """
    found = set()
    pairs = list(itertools.product(range(strip.width), repeat=2))
    for need in needs:
        for kept in itertools.product(*[range(strip.onward[i][j] + 1) for i, j in pairs]):
            if all(need[i] == sum(k for (u, _), k in zip(pairs, kept) if u == i) for i in range(strip.width)):
                left = [row[j] - sum(k for (_, v), k in zip(pairs, kept) if v == j) for j in range(strip.width)]
                found.update(tuple(x - inner for x in left) for inner in range(cell.inner + 1))
    return frozenset(need for need in found if min(need) >= 0)


def plain_lengths(strip, most):
    """For each count up to most: "none", "every" or "barred", by all rows and all ways to keep ties.

    What is known of the rows of the head and some cells is the parity of their sums, and what the
    places of the last cell may still need.
    """
    answers = []
    layer = set()
    for row in itertools.product(*[want.first(10) for want in strip.head.wishes]):
        starts = [tuple(x - inner for x in row) for inner in range(strip.head.inner + 1)]
        layer.add((sum(row) % 2, frozenset(need for need in starts if min(need) >= 0)))
    for _ in range(most + 1):
        ends = set()
        for parity, needs in layer:
            for row in itertools.product(*[want.first(10) for want in strip.tail.wishes]):
                if (parity + sum(row)) % 2 == 0:
                    ends.add((0,) * strip.width in plain_behind(strip, strip.tail, needs, row))
        answers.append("none" if not ends else "every" if ends == {True} else "barred")
        layer = {((parity + sum(row)) % 2, plain_behind(strip, strip.cell, needs, row)) for parity, needs in layer
                 for row in itertools.product(*[want.first(10) for want in strip.cell.wishes])}
    return answers


EMPTY_TWO = [[0, 0], [0, 0]]
LATE = Strip(Cell([Want(5), Want(6)], 3), Cell([Want(9), Want(8, 9)]), Cell([Want(6), Want(4)], 4), [[5, 6], [2, 5]])


class Lengths(Case):
    def told(self, strip):
        """What is told fits the counts that can be looked at; its first item and the count are returned."""
        found = lengths(strip)
        self.assertIs(type(found), tuple)
        if found[0] != "barred":
            self.assertIn(found, (("none",), ("every",)))
            return found
        _, count, row, lots = found
        self.assertTrue(all(item in want for item, want in zip(row, strip.wants_of(count))))
        self.assertEqual((type(row), len(row), sum(row) % 2), (tuple, (count + 2) * strip.width, 0))
        self.assertLess(strip_excess(strip, count, row, lots), 0)
        if (count + 2) * strip.width <= 60:
            self.truth(is_lots(strip.web_of(count), lots), True)
            self.assertLess(plain_excess(strip.web_of(count), row, lots), 0)
        return found[:2]

    def check(self, strip, counts):
        """By every for short strips, by worst_at for the others."""
        found = self.told(strip)
        for count in counts:
            if (count + 2) * strip.width <= 5:
                answer = every(strip.web_of(count), strip.wants_of(count))[0]
            else:
                amount = worst_at(strip, count, 0)
                answer = "none" if amount is None else "barred" if amount[0] else "every"
            if found == ("none",):
                self.same(answer, "none")
            elif found == ("every",) or count < found[1]:
                self.assertIn(answer, ("none", "every"))
            elif count == found[1]:
                self.same(answer, "barred")
        return found

    def test_against_every_and_worst_at(self):
        rng = seeded(176)
        kinds = {"none": 0, "every": 0, "barred": 0}
        counts = set()
        for width, times in ((1, 150), (2, 60)):
            for _ in range(times):
                strip = rng.choice((random_strip, mild_strip, mild_strip))(rng, width)
                found = self.check(strip, range(10 if width == 1 else 4))
                kinds[found[0]] = kinds[found[0]] + 1
                counts.update(found[1:])
        self.assertGreater(min(kinds.values()), 8, kinds)
        self.assertGreater(max(counts), 2, counts)

    def by_plain_search(self, strip, most):
        found, answers = self.told(strip), plain_lengths(strip, most)
        if "barred" in answers:
            self.same(found, ("barred", answers.index("barred")))
        elif found[0] == "barred":
            self.assertGreater(found[1], most)
        else:
            self.same(found, ("every",) if "every" in answers else ("none",))
        return found

    def test_by_all_rows_and_all_choices(self):
        rng = seeded(179)
        kinds = {"none": 0, "every": 0, "barred": 0}
        for _ in range(200):
            found = self.by_plain_search(rng.choice((random_strip, mild_strip, mild_strip))(rng, 1), 12)
            kinds[found[0]] = kinds[found[0]] + 1
        self.assertGreater(min(kinds.values()), 15, kinds)
        for _ in range(12):
            self.by_plain_search(random_strip(rng, 2, many=2, ties=(0, 1, 2)), 3)
            self.by_plain_search(mild_strip(rng, 2), 1)

    def test_parities(self):
        one, two = Cell([Want(1)]), Cell([Want(2)])
        # No even row at all, even rows for even or for odd counts alone, and for every count.
        self.same(lengths(Strip(one, two, two, [[6]])), ("none",))
        self.same(lengths(Strip(one, Cell([Want(2, 4, 8)]), two, [[0]])), ("none",))
        self.same(lengths(Strip(one, one, one, [[6]]))[0], "every")
        self.same(self.check(Strip(Cell([Want(0)]), one, one, [[6]]), range(9)), ("every",))
        self.same(self.check(Strip(one, one, Cell([Want(0)]), [[6]]), range(9)), ("every",))
        self.same(self.check(Strip(two, one, one, [[6]]), range(9)), ("barred", 1))
        self.same(self.check(Strip(two, two, one, [[6]]), range(9)), ("none",))
        # The first count with an even row is 1.
        self.same(self.check(Strip(one, Cell([Want(9)]), two, [[1]]), range(9)), ("barred", 1))
        # Rows that are not granted, all of which are odd.
        self.same(self.check(Strip(Cell([Want(0, 1)]), two, one, [[6]]), range(9)), ("every",))
        self.same(self.check(Strip(Cell([Want(0, 1)]), one, Cell([Want(0)]), [[6]]), range(9)), ("every",))

    def test_late_counts(self):
        self.same(self.by_plain_search(RISE, 8), ("barred", 3))
        self.same(self.by_plain_search(Strip(Cell([Want(4)]), Cell([Want(8, 9)]), Cell([Want(4)]), [[5]]), 8), ("barred", 3))
        self.same(self.check(LATE, range(14)), ("barred", 11))
        self.same(self.told(LATE.mirrored()), ("barred", 11))

    def test_all_strips_of_few_kinds(self):
        wants = (Want(0), Want(1), Want(2), Want(1, 2), Want(2, 3), Want(0, 3))
        answers = set()
        for head, cell, tail in itertools.product(wants, repeat=3):
            for ties in (1, 3):
                strip = Strip(Cell([head]), Cell([cell]), Cell([tail]), [[ties]])
                answers.add(self.check(strip, range(4)))
        self.assertLessEqual({("none",), ("every",), ("barred", 0), ("barred", 1), ("barred", 2)}, answers)

    def test_mirrors(self):
        rng = seeded(177)
        for width in (1, 2):
            for _ in range(60):
                strip = rng.choice((random_strip, mild_strip))(rng, width)
                self.same(self.told(strip), self.told(strip.mirrored()))

    def test_agrees_with_has_row(self):
        rng = seeded(178)
        for _ in range(60):
            strip = random_strip(rng, rng.choice((1, 2)), many=1)
            some = any(has_row(strip.wants_of(count), 0) for count in range(4))
            self.truth(self.told(strip) != ("none",), some)


if __name__ == "__main__":
    unittest.main()
