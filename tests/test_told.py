"""[3], [4], [5], [16], [100]: told."""

import inspect
import itertools
import unittest

from contentties import told as told_file
from contentties.lacks import lack
from contentties.shapes import complete
from contentties.told import front, fronts_hold, parting, told_back
from contentties.webs import Web
from tests.helpers import Case, granted, pairs_of, random_web, seeded

MOST = 10 ** 9


class Faulty(Exception):
    """What an ask may raise."""


def speaks_for(web):
    """An ask for a hidden web: a row with the same number at two places is granted by their bundle alone."""
    def ask(row):
        here = [place for place in range(web.size) if row[place]]
        u, v = here
        assert row[u] == row[v]
        return row[u] <= web[u, v]
    return ask


def grants(web, row):
    """Whether a web of any size grants a row with the same number at two places and 0 elsewhere."""
    here = [place for place in range(web.size) if row[place]]
    return not here or row[here[0]] <= web[here[0], here[1]]


def plain_front(number, row, many):
    """The front, word by word."""
    greatest = sorted(range(len(row)), key=lambda place: row[place])[len(row) - many:]
    total = number * many * (many - 1)
    total += sum(min(number * many, row[place]) for place in range(len(row)) if place not in greatest)
    return total - sum(row[place] for place in greatest)


class Interface(Case):
    def test_names_and_arguments(self):
        for name, arguments in {"told_back": ["size", "most", "ask"], "parting": ["one", "other"],
                                "front": ["number", "row", "many"], "fronts_hold": ["number", "row"]}.items():
            call = getattr(told_file, name)
            self.assertEqual(list(inspect.signature(call).parameters), arguments)
            self.assertEqual(call.__module__, "contentties.told")

    def test_example(self):
        self.truth(told_back(2, 3, lambda row: row[0] <= 2)[0] == Web(2, [(0, 1, 2)]), True)
        self.same([parting(Web(3, [(0, 1, 1)]), Web(3, [(0, 1, 1), (1, 2, 2)])), front(1, (3, 1, 3, 1), 2)], [(0, 2, 2), -2])


class ToldBack(Case):
    def check(self, size, most, ask):
        """What is told of any ask."""
        heard = []

        def listening(row):
            said = ask(row)
            heard.append((row, said))
            return said

        found = told_back(size, most, listening)
        self.assertIs(type(found), tuple)
        web, asked = found
        self.same(asked, heard)
        self.same(web.size, size)
        self.assertLessEqual(len(asked), len(pairs_of(size)) * most.bit_length())
        self.assertTrue(all(number <= most for _, _, number in web.ties))
        for row, said in asked:
            self.same((type(row), len(row)), (tuple, size))
            here = [place for place in range(size) if row[place]]
            self.same(len(here), 2)
            self.truth(0 < row[here[0]] == row[here[1]] <= most, True)
            self.truth(grants(web, row), said)
        return web

    def test_hidden_webs(self):
        rng = seeded(560)
        for size in (0, 1, 2, 3, 5, 8, 20):
            for most in (0, 1, 2, 3, 4, 7, 8, 100, MOST):
                hidden = random_web(rng, size, most)
                self.same(self.check(size, most, speaks_for(hidden)), hidden)

    def test_all_numbers_of_a_bundle(self):
        for most in (1, 2, 3, 4, 5, 15, 16, 17):
            for number in range(most + 1):
                hidden = Web(2, [(0, 1, number)])
                self.same(self.check(2, most, speaks_for(hidden)), hidden)

    def test_asks_that_look_at_the_whole_web(self):
        rng = seeded(561)
        for _ in range(6):
            hidden = random_web(rng, 4, 3)
            self.same(self.check(4, 3, lambda row: lack(hidden, row)[0] == 0), hidden)

    def test_asks_that_say_anything(self):
        rng = seeded(562)
        for most in (0, 1, 2, 6, MOST):
            for _ in range(10):
                self.check(5, most, lambda row: rng.random() < 0.5)
            self.same(self.check(4, most, lambda row: True), complete(4, most))
            self.same(self.check(4, most, lambda row: False), Web(4))

    def test_large_sizes(self):
        rng = seeded(563)
        hidden = random_web(rng, 60, MOST)
        web, asked = told_back(60, MOST, speaks_for(hidden))
        self.same(web, hidden)
        self.assertLessEqual(len(asked), 1770 * 30)
        self.same(told_back(60, 0, None), (Web(60), []))

    def test_nothing_to_ask(self):
        for size in (0, 1):
            for most in (0, 5, MOST):
                self.same(told_back(size, most, None), (Web(size), []))
        for size in (2, 5):
            self.same(told_back(size, 0, None), (Web(size), []))

    def test_errors_are_passed_on(self):
        for at in (0, 1, 5, 17):
            left = [at]
            error = Faulty("no")

            def ask(row):
                if left[0] == 0:
                    raise error
                left[0] -= 1
                return True

            with self.assertRaises(Faulty) as caught:
                told_back(4, 7, ask)
            self.assertIs(caught.exception, error)
        for kind in (ValueError, KeyError, IndexError, TypeError, ZeroDivisionError):
            def failing(row):
                raise kind("no")
            self.fails(kind, {}, told_back, 2, 1, failing)

    def test_results_belong_to_the_caller(self):
        hidden = complete(3, 2)
        found = told_back(3, 2, speaks_for(hidden))[1]
        expected = list(found)
        found.clear()
        self.same(told_back(3, 2, speaks_for(hidden))[1], expected)


class Parting(Case):
    def test_equal_webs(self):
        for web in (Web(0), Web(1), Web(60), complete(5, 3), complete(60, MOST)):
            self.assertIsNone(parting(web, web))
            self.assertIsNone(parting(web, Web(web.size, web.ties[::-1])))

    def test_first_pair(self):
        self.same(parting(Web(2), Web(2, [(0, 1, 4)])), (4, 4))
        one = Web(4, [(0, 2, 1), (1, 3, 5), (2, 3, 9)])
        self.same(parting(one, one.changed(2, 3, 10)), (0, 0, 10, 10))
        self.same(parting(one.changed(2, 3, 10), one), (0, 0, 10, 10))
        self.same(parting(one, one.changed(1, 3, 2).changed(2, 3, 1)), (0, 5, 0, 5))
        self.same(parting(one, one.changed(0, 3, 2).changed(1, 2, 8)), (2, 0, 0, 2))
        large = complete(60, MOST)
        self.same(parting(large, large.changed(58, 59, 0)), (0,) * 58 + (MOST, MOST))

    def test_just_one_grants_it(self):
        rng = seeded(564)
        for _ in range(30):
            one, other = [random_web(rng, rng.choice((3,)), 2) for _ in range(2)]
            row = parting(one, other)
            if row is None:
                self.same(one, other)
            else:
                self.truth((row in granted(one)) != (row in granted(other)), True)
                self.same(row, parting(other, one))


class Fronts(Case):
    def test_against_the_words(self):
        rng = seeded(565)
        for _ in range(80):
            row = tuple(rng.randint(0, 9) for _ in range(rng.randint(1, 7)))
            number = rng.randint(0, 4)
            for many in range(1, len(row) + 1):
                self.same(front(number, row, many), plain_front(number, row, many))
            self.truth(fronts_hold(number, row), all(plain_front(number, row, many) >= 0
                                                     for many in range(1, len(row) + 1)))

    def test_edges(self):
        self.same(front(3, (5, 1, 2), 1), 1 + 2 - 5)
        self.same(front(3, (5, 1, 2), 3), 18 - 8)
        self.same(front(0, (5, 1, 2), 3), -8)
        self.same(front(7, (4,), 1), -4)
        self.same(front(10 ** 30, (10 ** 40,) * 60, 60), 10 ** 30 * 3540 - 60 * 10 ** 40)
        self.truth(fronts_hold(0, ()), True)
        self.truth(fronts_hold(MOST, ()), True)
        self.truth(fronts_hold(MOST, (0,)), True)
        self.truth(fronts_hold(MOST, (1,)), False)
        self.truth(fronts_hold(0, (0,) * 60), True)
        self.truth(fronts_hold(0, (0,) * 59 + (1,)), False)
        self.truth(fronts_hold(MOST, (59 * MOST,) * 60), True)
        self.truth(fronts_hold(MOST, (59 * MOST,) * 59 + (59 * MOST + 2,)), False)

    def test_the_order_of_the_row_means_nothing(self):
        for row in itertools.permutations((4, 1, 3, 0)):
            self.same([front(2, row, many) for many in (1, 2, 3, 4)], [front(2, (4, 1, 3, 0), many) for many in (1, 2, 3, 4)])

    def test_complete_webs(self):
        rng = seeded(566)
        for size in range(1, 6):
            for number in (0, 1, 2, 3, 50, MOST):
                web = complete(size, number)
                for _ in range(12):
                    high = number * (size - 1) + rng.randint(0, 2)
                    row = tuple(rng.choice((0, high, high // 2, rng.randint(0, high))) for _ in range(size))
                    if sum(row) % 2 == 0:
                        self.truth(fronts_hold(number, row), lack(web, row)[0] == 0, f"{number} {row}")

    def test_all_even_rows_of_small_complete_webs(self):
        for size, number in ((1, 3), (2, 3), (3, 2), (4, 1), (4, 2)):
            rows = granted(complete(size, number))
            for row in itertools.product(range(number * (size - 1) + 2), repeat=size):
                if sum(row) % 2 == 0:
                    self.truth(fronts_hold(number, row), row in rows)


if __name__ == "__main__":
    unittest.main()
