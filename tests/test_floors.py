"""[2], [3], [4], [14], [72], [73]: floors."""

import inspect
import itertools
import unittest

from contentties import floors as floors_file
from contentties.cells import Cell, Strip
from contentties.floors import closings, floors, is_floors, onwards, openings
from contentties.lengths import lengths, strip_excess, worst_at
from contentties.wants import Want
from tests.helpers import NO_INTEGERS, Agreeing, Case, mild_strip, random_strip, same, seeded

RISE = Strip(Cell([Want(2)]), Cell([Want(4, 5)]), Cell([Want(2)]), [[6]])
EVEN = Strip(Cell([Want(1)]), Cell([Want(2)]), Cell([Want(1)]), [[2]])
LATE = Strip(Cell([Want(5), Want(6)], 3), Cell([Want(9), Want(8, 9)]), Cell([Want(6), Want(4)], 4), [[5, 6], [2, 5]])


def all_states(width):
    """All states of [72], with so many marks."""
    found = [(parity, marks, False) for parity in (0, 1) for marks in itertools.product("seto", repeat=width)]
    if width == 2:
        found.extend((parity, (mark, mark), True) for parity in (0, 1) for mark in "eo")
    return found


def plain_step(strip, cell, state, marks, numbers):
    """The state and the gain of a cell behind a state, word by word as the document tells it."""
    parity, last, joined = state
    width = strip.width
    gain = sum({"s": -1, "t": 1, "n": 0}[mark] * number for mark, number in zip(marks, numbers))
    # The places are named ("last", i) and ("new", j); ties between them, with both marks.
    ties = [(("last", i), ("new", j), strip.onward[i][j]) for i in range(len(last)) for j in range(width)]
    if width == 2:
        ties.append((("new", 0), ("new", 1), cell.inner))
    mark_of = {("last", i): mark for i, mark in enumerate(last)} | {("new", j): mark for j, mark in enumerate(marks)}
    weight = {("new", j): number for j, number in enumerate(numbers)}
    weight.update({("last", i): int(mark == "o") for i, mark in enumerate(last)})
    free = [place for place in mark_of if mark_of[place] in "neo"]
    for one, other, number in ties:
        if mark_of[one] == "t" and mark_of[other] == "t":
            gain -= 2 * number
        for place, there in ((one, other), (other, one)):
            if mark_of[place] == "t" and there in free:
                gain -= number
                weight[there] += number
    groups = [{place} for place in free]
    links = [(one, other) for one, other, number in ties if number and one in free and other in free]
    if joined:
        # Both have the mark of the one piece.
        links.append((("last", 0), ("last", 1)))
        weight["last", 1] -= int(last[1] == "o")
    for one, other in links:
        first, second = [next(group for group in groups if place in group) for place in (one, other)]
        if first is not second:
            groups.remove(second)
            first |= second
    told = list(marks)
    for group in groups:
        odd = sum(weight[place] for place in group) % 2
        new = [j for name, j in group if name == "new"]
        if not new:
            gain += odd
        for j in new:
            told[j] = "eo"[odd]
    together = any({("new", 0), ("new", 1)} <= group for group in groups)
    return ((parity + sum(numbers)) % 2, tuple(told), together), gain


def plain_ends(state):
    _, marks, joined = state
    return 1 if joined and marks[0] == "o" else 0 if joined else marks.count("o")


def plain_moves(strip, cell, state, ends=False):
    """The ascending list of what a cell leads to, by all marks and all numbers."""
    best = {}
    for marks in itertools.product("nst", repeat=strip.width):
        for numbers in itertools.product(*[want.first(10) for want in cell.wishes]):
            reached, gain = plain_step(strip, cell, state, marks, numbers)
            if ends:
                gain += plain_ends(reached)
                reached = reached[0]
            best[reached] = max(gain, best.get(reached, gain))
    return sorted(best.items())


def plain_table(strip, most):
    """The greatest sums of gains of all states that the head and at most so many cells come to."""
    best = dict(plain_moves(strip, strip.head, (0, (), False)))
    layer = dict(best)
    for _ in range(most):
        added = {}
        for state, total in layer.items():
            for reached, gain in onwards(strip, state):
                added[reached] = max(total + gain, added.get(reached, total + gain))
        for state, total in added.items():
            best[state] = max(total, best.get(state, total))
        layer = added
    return sorted(best.items())


def spread(strip, table, low):
    """The table with all other states, too, each with as little as the conditions ask for, at least low."""
    amounts = {state: low for state in all_states(strip.width)} | dict(table)
    for _ in range(len(amounts)):
        for state in list(amounts):
            for reached, gain in onwards(strip, state):
                amounts[reached] = max(amounts[reached], amounts[state] + gain)
    return sorted(amounts.items())


class Interface(Case):
    def test_names_and_arguments(self):
        for name, arguments in {"openings": ["strip"], "onwards": ["strip", "state"], "closings": ["strip", "state"],
                                "floors": ["strip"], "is_floors": ["strip", "thing"]}.items():
            call = getattr(floors_file, name)
            self.assertEqual(list(inspect.signature(call).parameters), arguments)
            self.assertEqual(call.__module__, "contentties.floors")

    def test_example(self):
        self.same(openings(EVEN), [((1, ("o",), False), 0), ((1, ("s",), False), -1), ((1, ("t",), False), 1)])
        self.same([closings(EVEN, (1, ("t",), False)), closings(EVEN, (1, ("o",), False))], [[(0, -1)], [(0, 0)]])
        self.same([floors(RISE)[:2], floors(EVEN)[0], is_floors(EVEN, floors(EVEN)[1]), is_floors(EVEN, [])],
                  [("barred", 3), "every", True, False])


class States(Case):
    def test_openings(self):
        rng = seeded(180)
        for width in (1, 2):
            for _ in range(40):
                strip = random_strip(rng, width, ties=(0, 1, 2, 6))
                self.same(openings(strip), plain_moves(strip, strip.head, (0, (), False)))

    def test_openings_by_hand(self):
        wide = Strip(Cell([Want(2), Want(3, 4)], 1), Cell([Want(0)] * 2), Cell([Want(0)] * 2), [[0, 0], [0, 0]])
        found = dict(openings(wide))
        for state, gain in (((1, ("o", "o"), True), 0), ((0, ("e", "e"), True), 0), ((1, ("s", "s"), False), -5),
                            ((0, ("t", "t"), False), 2 + 4 - 2), ((1, ("t", "e"), False), 2 - 1),
                            ((0, ("t", "o"), False), 2 - 1), ((0, ("o", "t"), False), 4 - 1), ((1, ("s", "o"), False), -2)):
            self.same(found[state], gain)
        self.assertNotIn((1, ("e", "o"), False), found)
        apart = dict(openings(Strip(Cell([Want(2), Want(3, 4)]), Cell([Want(0)] * 2), Cell([Want(0)] * 2), [[0, 0]] * 2)))
        self.same([apart[1, ("e", "o"), False], apart[0, ("e", "e"), False], apart[1, ("t", "o"), False]], [0, 0, 2])
        self.assertNotIn((1, ("o", "o"), True), apart)

    def test_onwards_and_closings(self):
        # Behind all states, also those to which no strip comes.
        rng = seeded(181)
        for width, times in ((1, 25), (2, 8)):
            for _ in range(times):
                strip = random_strip(rng, width, ties=(0, 0, 1, 2, 6))
                for state in all_states(width):
                    self.same(onwards(strip, state), plain_moves(strip, strip.cell, state))
                    self.same(closings(strip, state), plain_moves(strip, strip.tail, state, True))

    def test_inner_and_onward_ties_of_0_and_6(self):
        rng = seeded(182)
        for inner, onward in itertools.product((0, 6), itertools.product((0, 6), repeat=4)):
            cell = Cell([Want(*rng.sample(range(10), 2)), Want(rng.randint(0, 9))], inner)
            strip = Strip(cell, cell, cell, [onward[:2], onward[2:]])
            for state in rng.sample(all_states(2), 9) + [(0, ("o", "o"), True), (1, ("e", "e"), True)]:
                self.same(onwards(strip, state), plain_moves(strip, cell, state))
                self.same(closings(strip, state), plain_moves(strip, cell, state, True))

    def test_pieces_that_end_and_go_on(self):
        # An odd piece without ties ends with a gain of 1, one piece of two with 1 as well, two pieces with 2.
        zero = Cell([Want(0), Want(0)])
        strip = Strip(zero, zero, zero, [[0, 0], [0, 0]])
        for state, gain in (((0, ("o", "o"), False), 2), ((0, ("o", "o"), True), 1), ((0, ("e", "e"), True), 0),
                            ((0, ("o", "s"), False), 1), ((0, ("t", "o"), False), 1)):
            self.same(dict(onwards(strip, state))[0, ("e", "e"), False], gain)
            self.same(closings(strip, state), [(0, gain)])
        tied = Strip(zero, zero, zero, [[1, 1], [0, 0]])
        self.same(dict(onwards(tied, (0, ("o", "e"), False)))[0, ("o", "o"), True], 0)
        self.same(dict(onwards(tied, (0, ("o", "o"), True)))[0, ("o", "o"), True], 0)
        self.same(dict(onwards(tied, (0, ("o", "o"), False)))[0, ("o", "o"), True], 1)
        crossed = Strip(zero, zero, zero, [[1, 0], [0, 1]])
        self.same(dict(onwards(crossed, (0, ("o", "o"), False)))[0, ("o", "o"), False], 0)
        self.same(dict(onwards(crossed, (0, ("o", "o"), True)))[0, ("o", "o"), True], 0)
        self.same(dict(onwards(crossed, (0, ("o", "o"), False)))[0, ("o", "t"), False], -1)
        # The parity of a piece that ends counts its ties to places of the new cell in t.
        self.same(dict(onwards(crossed, (0, ("e", "s"), False)))[0, ("t", "e"), False], 0)
        self.same(dict(onwards(crossed, (0, ("o", "s"), False)))[0, ("t", "e"), False], -1)

    def test_sums_of_gains_are_minus_the_excess(self):
        rng = seeded(183)
        for width in (1, 2):
            for _ in range(40):
                strip = random_strip(rng, width, ties=(0, 1, 2, 6))
                count = rng.randint(0, 6)
                cells = [strip.head] + [strip.cell] * count + [strip.tail]
                state, total, row, marks = (0, (), False), 0, (), ()
                for cell in cells:
                    here = tuple(rng.choice("nst") for _ in range(width))
                    numbers = tuple(rng.choice(want.first(10)) for want in cell.wishes)
                    known = dict(openings(strip) if not row else onwards(strip, state)) if cell is not cells[-1] else None
                    state, gain = plain_step(strip, cell, state, here, numbers)
                    if known is not None:
                        self.assertGreaterEqual(known[state], gain)
                    total, row, marks = total + gain, row + numbers, marks + here
                lots = tuple(tuple(v for v, mark in enumerate(marks) if mark == sought) for sought in "st")
                self.same(total + plain_ends(state), -strip_excess(strip, count, row, lots))

    def test_new_lists(self):
        for call in (openings, lambda strip: onwards(strip, (1, ("t",), False)),
                     lambda strip: closings(strip, (1, ("t",), False))):
            first = call(EVEN)
            first.clear()
            self.truth(len(call(EVEN)) > 0, True)
            self.truth(same(call(EVEN), call(EVEN)), True)


class Floors(Case):
    def test_tables(self):
        rng = seeded(184)
        seen = 0
        for width, times in ((1, 120), (2, 25)):
            for _ in range(times):
                strip = rng.choice((random_strip, mild_strip, mild_strip, mild_strip))(rng, width)
                found, told = floors(strip), lengths(strip)
                self.assertIs(type(found), tuple)
                if told != ("every",):
                    self.same(found, told)
                    continue
                seen = seen + 1
                self.assertEqual((len(found), found[0]), (2, "every"))
                self.same(found[1], plain_table(strip, 8 if width == 1 else 36))
                self.same(found[1], sorted(found[1]))
                self.truth(is_floors(strip, found[1]), True)
                self.same(lengths(strip.mirrored()), ("every",))
        self.assertGreater(seen, 30)

    def test_other_answers(self):
        self.same(floors(Strip(EVEN.head, EVEN.cell, EVEN.cell, EVEN.onward)), ("none",))
        found = floors(LATE)
        self.same(found[:2], ("barred", 11))
        self.assertLess(strip_excess(LATE, 11, *found[2:]), 0)
        self.same(worst_at(LATE, 10, 0)[0], 0)

    def test_no_table_for_barred_strips(self):
        rng = seeded(185)
        for _ in range(40):
            strip = random_strip(rng, rng.choice((1, 2)))
            if lengths(strip)[0] == "barred":
                self.truth(is_floors(strip, plain_table(strip, 12)), False)

    def test_new_lists(self):
        first = floors(EVEN)[1]
        first.clear()
        self.same(len(floors(EVEN)[1]) > 0, True)


class IsFloors(Case):
    def setUp(self):
        self.table = floors(EVEN)[1]
        self.wide = Strip(Cell([Want(1), Want(1, 2)], 6), Cell([Want(2), Want(3)], 4), Cell([Want(1), Want(2)], 6),
                          [[3, 5], [5, 3]])
        self.assertEqual(floors(self.wide)[0], "every")
        self.wide_table = floors(self.wide)[1]

    def test_good(self):
        self.truth(is_floors(EVEN, self.table), True)
        self.truth(is_floors(self.wide, self.wide_table), True)
        self.same(is_floors(EVEN, list(self.table)), True)

    def test_each_state_left_out(self):
        for strip, table in ((EVEN, self.table), (self.wide, self.wide_table)):
            for at in range(len(table)):
                self.truth(is_floors(strip, table[:at] + table[at + 1:]), False)
            self.truth(is_floors(strip, []), False)

    def test_each_integer_less(self):
        for strip, table in ((EVEN, self.table), (self.wide, self.wide_table)):
            for at, (state, amount) in enumerate(table):
                for less in (1, 2, 10 ** 20):
                    self.truth(is_floors(strip, table[:at] + [(state, amount - less)] + table[at + 1:]), False)

    def test_greater_integers(self):
        # Right as long as no row is barred with the tail, and each state behind is great enough.
        rng = seeded(186)
        answers = []
        for strip, table in ((EVEN, self.table), (self.wide, self.wide_table)):
            for at, (state, amount) in enumerate(table):
                for more in (1, 2, 10 ** 20):
                    changed = table[:at] + [(state, amount + more)] + table[at + 1:]
                    answers.append(self.by_conditions(strip, changed))
            for _ in range(20):
                answers.append(self.by_conditions(strip, [(state, amount + rng.choice((0, 0, 1))) for state, amount in table]))
        self.assertIn(False, answers)
        # Without any even row nothing is barred, however great the integers are.
        loose = Strip(Cell([Want(1)]), Cell([Want(2)]), Cell([Want(2)]), [[2]])
        self.same(lengths(loose), ("none",))
        table = plain_table(loose, 8)
        self.truth(self.by_conditions(loose, [(state, amount + 10 ** 20) for state, amount in table]), True)

    def by_conditions(self, strip, table):
        """The three conditions by themselves, compared with is_floors."""
        amounts = dict(table)
        right = all(state in amounts and amounts[state] >= gain for state, gain in openings(strip))
        for state, amount in table:
            right = right and all(reached in amounts and amounts[reached] >= amount + gain
                                  for reached, gain in onwards(strip, state))
            right = right and all(amount + gain < 2 for parity, gain in closings(strip, state) if parity == 0)
        self.truth(is_floors(strip, table), right)
        return right

    def test_states_that_no_strip_comes_to(self):
        answers = set()
        for strip, table in ((EVEN, self.table), (self.wide, self.wide_table)):
            full = spread(strip, table, -10 ** 9)
            self.assertGreater(len(full), len(table))
            self.same([entry for entry in full if entry in table], table)
            self.truth(self.by_conditions(strip, full), True)
            # All states that come behind one that is added must be there, too.
            answers.update(self.by_conditions(strip, sorted([*table, entry])) for entry in full if entry not in table)
        self.same(answers, {True, False})

    def test_each_condition_alone(self):
        # One way from the head, nothing else: a strip in which only one condition is broken at a time.
        zero = Strip(Cell([Want(0)]), Cell([Want(0)]), Cell([Want(0)]), [[0]])
        table = floors(zero)[1]
        self.same(table, [((0, (mark,), False), 0) for mark in "est"])
        self.truth(self.by_conditions(zero, table), True)
        odd = [((0, ("o",), False), amount) for amount in (-1, 0)]
        # With the odd piece the next cell gains 1: the others must be at least as great.
        self.truth(self.by_conditions(zero, sorted(table + odd[:1])), True)
        self.truth(self.by_conditions(zero, sorted(table + odd[1:])), False)
        self.truth(self.by_conditions(zero, sorted([(state, 1) for state, _ in table] + odd[1:])), True)
        self.truth(self.by_conditions(zero, [(state, 1) for state, _ in table]), True)
        # The tail: 2 is too much. The head: below 0 is too little.
        self.truth(self.by_conditions(zero, [(state, 2) for state, _ in table]), False)
        self.truth(self.by_conditions(zero, [(state, -1) for state, _ in table]), False)
        # Rows that are odd may be barred: behind parity 1 no even row ends with this tail.
        both = table + [((1, (mark,), False), 50) for mark in "est"]
        self.truth(self.by_conditions(zero, both), True)
        self.truth(self.by_conditions(zero, table + both[4:]), False)

    def test_order(self):
        for strip, table in ((EVEN, self.table), (self.wide, self.wide_table)):
            self.truth(is_floors(strip, table[::-1]), False)
            self.truth(is_floors(strip, [table[1], table[0], *table[2:]]), False)
            self.truth(is_floors(strip, [table[0], *table]), False)
            state, amount = table[0]
            self.truth(is_floors(strip, [(state, amount), (state, amount + 1), *table[1:]]), False)
            self.truth(is_floors(strip, [(state, amount - 1), (state, amount), *table[1:]]), False)

    def test_other_things(self):
        for thing in NO_INTEGERS + (0, tuple(self.table), dict(self.table), iter(self.table), [self.table], Agreeing(),
                                    [Agreeing()], [list(entry) for entry in self.table], ["x"] * 8000, self.wide_table,
                                    floors(EVEN), openings(EVEN)):
            self.truth(is_floors(EVEN, thing), False, repr(thing)[:99])
        state, amount = self.table[0]
        for entry in NO_INTEGERS + ((state,), (state, amount, 0), [state, amount], (amount, state), (state, str(amount)),
                                    (state, None), (state, True), (state, False), Agreeing(), (Agreeing(), amount),
                                    (state, Agreeing()), (state, (amount,))):
            self.truth(is_floors(EVEN, [entry, *self.table[1:]]), False, repr(entry))
        self.truth(is_floors(self.wide, self.table), False)

    def test_wrong_states(self):
        zero = Strip(Cell([Want(0)]), Cell([Want(0)]), Cell([Want(0)]), [[0]])
        table = floors(zero)[1]
        _, marks, joined = table[0][0]
        for state in ((0, marks), (0, marks, joined, 0), [0, marks, joined], (False, marks, joined), (True, marks, joined),
                      (0, marks, 0), (0, marks, 1), (0, marks, None), (0, marks, "False"), (0, list(marks), joined),
                      (0, "e", joined), (0, ("x",), joined), (0, ("",), joined), (0, (0,), joined), (0, (), joined),
                      (0, ("e", "e"), joined), (0, marks, True), ("0", marks, joined), (2, marks, joined),
                      (-1, marks, joined), (None, marks, joined), (0, (Agreeing(),), joined), (0, marks, Agreeing()),
                      (Agreeing(), marks, joined), ((0,), marks, joined), (0, ("n",), joined), (0, ("E",), joined)):
            self.truth(is_floors(zero, [(state, 0), *table[1:]]), False, repr(state))
            self.truth(is_floors(zero, [*table, (state, -5)]), False, repr(state))

    def test_wrong_joined_states(self):
        low = -10 ** 9
        full = spread(self.wide, self.wide_table, low)
        self.truth(is_floors(self.wide, full), True)
        for marks in itertools.product("seto", repeat=2):
            if marks not in (("e", "e"), ("o", "o")):
                more = sorted(full + [((0, marks, True), low)])
                self.truth(is_floors(self.wide, more), False, repr(marks))
        for joined in (0, 1):
            changed = [((*state[:2], joined) if state == (0, ("e", "e"), bool(joined)) else state, amount)
                       for state, amount in full]
            self.truth(is_floors(self.wide, changed), False)

    def test_strips_that_are_not_every(self):
        rng = seeded(187)
        for width in (1, 2):
            for _ in range(25):
                strip = random_strip(rng, width)
                answer = lengths(strip)[0]
                for amount in (-10 ** 6, 0, 1, 10 ** 6):
                    table = sorted((state, amount) for state in all_states(width))
                    found = self.by_conditions(strip, table)
                    self.truth(found and answer == "barred", False)


if __name__ == "__main__":
    unittest.main()
