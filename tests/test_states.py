"""[71], [72]: states, on which cells, lengths and floors rest."""

import itertools
import unittest

from contentties.cells import Cell, Strip
from contentties.floors import closings, onwards, openings
from contentties.lengths import strip_excess, worst_at
from contentties.states import START, Behind, Seams, odd_ends
from contentties.wants import Want
from tests.helpers import Case, random_strip, seeded
from tests.test_floors import all_states, plain_ends, plain_step

WIDE = Strip(Cell([Want(0, 1, 4, 5, 9), Want(2, 3, 7)], 2), Cell([Want(1, 2, 6), Want(0, 3, 4, 8)], 1),
             Cell([Want(3, 4), Want(5, 6)], 3), [[1, 2], [3, 1]])


def some_strips():
    rng = seeded(620)
    strips = [WIDE]
    # Without inner ties the places of a cell are joined only by what stands ahead of them.
    plain = Cell([Want(1, 2), Want(2, 3)])
    for onward in ([[1, 1], [2, 1]], [[1, 2], [0, 0]], [[0, 0], [3, 1]], [[1, 0], [0, 1]], [[0, 2], [1, 0]]):
        strips.append(Strip(plain, plain, Cell([Want(0), Want(1, 4)], 1), onward))
    for width in (1, 2):
        for ties in ((0, 1, 2, 3, 6), (0, 0, 1), (2, 4, 6), (0, 3)):
            strips.append(random_strip(rng, width, ties=ties))
    return strips


class States(Case):
    def test_one_cell_behind_a_state(self):
        for strip in some_strips():
            seams = Seams(strip)
            for cell in (strip.cell, strip.tail):
                behind = Behind(seams, cell)
                for state in all_states(strip.width):
                    for marks in itertools.product("stn", repeat=strip.width):
                        for numbers in itertools.product((0, 3, 4), repeat=strip.width):
                            self.same(behind.put(state, marks, numbers), plain_step(strip, cell, state, marks, numbers))

    def test_the_head(self):
        for strip in some_strips():
            behind = Behind(Seams(strip), strip.head)
            for marks in itertools.product("stn", repeat=strip.width):
                for numbers in itertools.product(range(4), repeat=strip.width):
                    self.same(behind.put(START, marks, numbers), plain_step(strip, strip.head, START, marks, numbers))

    def test_moves_are_the_best_of_all(self):
        for strip in some_strips():
            behind = Behind(Seams(strip), strip.cell)
            for state in all_states(strip.width):
                best = {}
                for marks in itertools.product("stn", repeat=strip.width):
                    for numbers in itertools.product(*[want.first(10) for want in strip.cell.wishes]):
                        reached, gain = plain_step(strip, strip.cell, state, marks, numbers)
                        best[reached] = max(gain, best.get(reached, gain))
                found = behind.moves(state)
                self.assertEqual({reached: move[0] for reached, move in found.items()}, best)
                for reached, (gain, marks, numbers) in found.items():
                    self.same(behind.put(state, marks, numbers), (reached, gain))
                    self.assertTrue(all(number in want for number, want in zip(numbers, strip.cell.wishes)))

    def test_odd_ends(self):
        for width in (1, 2):
            for state in all_states(width):
                self.same(odd_ends(state), plain_ends(state))

    def test_worst_at_by_single_cells(self):
        """The greatest sums of gains, cell by cell, by openings, onwards and closings alone."""
        for strip in some_strips():
            sums = dict(openings(strip))
            for count in range(13):
                best = {}
                for state, total in sums.items():
                    for parity, gain in closings(strip, state):
                        best[parity] = max(total + gain, best.get(parity, total + gain))
                for parity in (0, 1):
                    found = worst_at(strip, count, parity)
                    self.same(found and found[0], best.get(parity))
                    if found:
                        self.same(strip_excess(strip, count, found[1], found[2]), -found[0])
                added = {}
                for state, total in sums.items():
                    for reached, gain in onwards(strip, state):
                        added[reached] = max(total + gain, added.get(reached, total + gain))
                sums = added


if __name__ == "__main__":
    unittest.main()
