"""[2], [3], [4], [9], [80], [81]: listing."""

import inspect
import itertools
import unittest

from contentties import listing as listing_file
from contentties.drafts import Draft
from contentties.errors import NoChoice, NoIndex, TooMany
from contentties.listing import Choices, choices, granted_rows, numbers, row_counts
from contentties.shapes import complete, line, moved, renamed
from contentties.webs import Web
from tests.helpers import NO_INTEGERS, Agreeing, Case, all_choices, multiplied, pairs_of, random_web, seeded

MOST = 10 ** 9
TRIANGLE = Web(3, [(0, 1, 1), (0, 2, 1), (1, 2, 1)])
JUST = (complete(5, 1), Web(2, [(0, 1, 1023)]), Web(4, [(0, 1, 31), (2, 3, 31)]), Web(3, [(0, 1, 7), (0, 2, 7), (1, 2, 15)]))
ONE_MORE = (Web(2, [(0, 1, 1024)]), Web(4, [(0, 1, 40), (2, 3, 24)]), Web(2, [(0, 1, MOST)]), complete(5, 2),
            Web(5, [(0, 1, 4), (2, 3, 4), (3, 4, 40)]))
SMALL = (Web(0), Web(1), Web(2), Web(5), TRIANGLE, line(5, 2), complete(4, 1), Web(2, [(0, 1, 7)]),
         Web(3, [(0, 2, 4)]), Web(5, [(1, 3, 2), (1, 4, 3)]))


def plain_choices(web, row=None):
    """All choices with a row, in the order of their numbers."""
    return [kept for kept in all_choices(web) if row is None or kept.degrees == row]


def strange_rows(web):
    """Rows that no choice has: odd ones, some below 0, some far above."""
    if web.size == 0:
        return []
    rest = (0,) * (web.size - 1)
    return [(1, *rest), (-1, *rest), (-2, *rest), (10 ** 12, *rest), (-10 ** 12, *rest), (-1,) * web.size,
            (-10 ** 12,) * web.size, tuple(d + 1 for d in web.degrees), tuple(d + 2 for d in web.degrees)]


class Interface(Case):
    def test_names_and_arguments(self):
        for name, arguments in {"numbers": ["web"], "choices": ["web", "row"], "granted_rows": ["web"],
                                "row_counts": ["web"], "Choices": ["web", "row"]}.items():
            call = getattr(listing_file, name)
            self.assertEqual(list(inspect.signature(call).parameters), arguments)
            self.assertEqual(call.__module__, "contentties.listing")
            if "row" in arguments:
                self.assertIsNone(inspect.signature(call).parameters["row"].default)
        for name in ("__len__", "__contains__", "__getitem__", "number_of"):
            self.assertIn(name, vars(Choices))
        self.assertEqual(list(inspect.signature(Choices.number_of).parameters), ["self", "kept"])

    def test_example(self):
        self.same(granted_rows(TRIANGLE), [(0, 0, 0), (0, 1, 1), (1, 0, 1), (1, 1, 0), (1, 1, 2), (1, 2, 1), (2, 1, 1),
                                           (2, 2, 2)])
        every_choice = Choices(TRIANGLE)
        self.same([len(every_choice), every_choice[6].degrees, every_choice.number_of(Web(3, [(1, 2, 1)]))],
                  [8, (2, 1, 1), 1])


class Numbers(Case):
    def test_small_webs(self):
        self.same(numbers(Web(0)), ())
        self.same(numbers(Web(1)), ())
        self.same(numbers(Web(2, [(1, 0, 4)])), (4,))
        self.same(numbers(Web(4, [(0, 1, 1), (0, 3, 2), (1, 2, 3), (3, 2, 4)])), (1, 0, 2, 3, 0, 4))

    def test_large_webs(self):
        rng = seeded(500)
        for size in (6, 13, 60):
            web = random_web(rng, size, MOST, 0.5)
            self.same(numbers(web), tuple(web[pair] for pair in pairs_of(size)))
        self.same(numbers(complete(60, MOST)), (MOST,) * 1770)
        self.same(numbers(Web(60)), (0,) * 1770)


class Lists(Case):
    def test_all_choices(self):
        rng = seeded(501)
        for web in SMALL + tuple(random_web(rng, rng.randint(2, 4), 2, 0.3) for _ in range(10)):
            found = choices(web)
            self.same(found, plain_choices(web))
            self.same([numbers(kept) for kept in found], sorted(numbers(kept) for kept in found))
            self.same(len(found), multiplied([number + 1 for number in numbers(web)]))
            self.same(choices(web, None), found)

    def test_choices_with_a_row(self):
        rng = seeded(502)
        for web in SMALL + tuple(random_web(rng, rng.randint(2, 5), rng.choice((1, 2)), 0.5) for _ in range(12)):
            rows = granted_rows(web) if web.total < 9 else rng.sample(granted_rows(web), 8)
            for row in rows + strange_rows(web):
                self.same(choices(web, row), plain_choices(web, row))
        self.same(choices(Web(2, [(0, 1, 1023)]), (700, 700)), [Web(2, [(0, 1, 700)])])
        self.same(choices(Web(2, [(0, 1, 1023)]), (700, 702)), [])

    def test_rows_and_counts(self):
        rng = seeded(503)
        for web in SMALL + tuple(random_web(rng, rng.randint(2, 5), rng.choice((1, 2)), 0.4) for _ in range(12)):
            if multiplied([number + 1 for number in numbers(web)]) > 1024:
                continue
            counts = {}
            for kept in all_choices(web):
                counts[kept.degrees] = counts.get(kept.degrees, 0) + 1
            self.assertIs(type(row_counts(web)), dict)
            self.assertEqual(row_counts(web), counts)
            self.same(granted_rows(web), sorted(counts))

    def test_just_as_many_choices_as_allowed(self):
        for web in JUST:
            counts = row_counts(web)
            self.same(sum(counts.values()), 1024)
            self.same(len(choices(web)), 1024)
            self.same(len(Choices(web)), 1024)
            for row, count in counts.items():
                # What is left of a row has the same number of choices.
                self.same(counts[tuple(d - x for d, x in zip(web.degrees, row))], count)

    def test_counts_sum_up(self):
        rng = seeded(504)
        for _ in range(12):
            web = random_web(rng, rng.randint(0, 4), 2, 0.3)
            counts = row_counts(web)
            self.same(sum(counts.values()), multiplied([number + 1 for number in numbers(web)]))
            for row, count in counts.items():
                self.same(counts[tuple(d - x for d, x in zip(web.degrees, row))], count)
                self.same(len(choices(web, row)), count)

    def test_other_names(self):
        web = Web(4, [(0, 1, 2), (1, 2, 1), (1, 3, 2), (0, 3, 1)])
        for order in ((1, 0, 2, 3), (3, 2, 1, 0), (2, 3, 1, 0)):
            other = row_counts(renamed(web, order))
            self.assertEqual(other, {moved(row, order): count for row, count in row_counts(web).items()})

    def test_results_belong_to_the_caller(self):
        for ask in (choices, granted_rows):
            found = ask(TRIANGLE)
            found.clear()
            self.same(len(ask(TRIANGLE)), 8)
        found = row_counts(TRIANGLE)
        found[(0, 0, 0)] = 77
        del found[(2, 2, 2)]
        self.assertEqual(row_counts(TRIANGLE), {row: 1 for row in granted_rows(TRIANGLE)})
        self.same(TRIANGLE.ties, ((0, 1, 1), (0, 2, 1), (1, 2, 1)))


class Numbered(Case):
    def test_numbering(self):
        rng = seeded(505)
        for web in SMALL + tuple(random_web(rng, 4, 2, 0.5) for _ in range(5)):
            rows = [None] + granted_rows(web)[:6] + strange_rows(web)
            for row in rows:
                listed, expected = Choices(web, row), plain_choices(web, row)
                self.same(len(listed), len(expected))
                for at, kept in enumerate(expected):
                    self.same(listed[at], kept)
                    self.same(listed.number_of(kept), at)
                    self.truth(kept in listed, True)
                self.assertIs(listed.source, web)
                self.assertIs(listed.sought, row)

    def test_no_row_is_all_rows(self):
        self.assertIsNone(Choices(TRIANGLE).sought)
        self.same(len(Choices(TRIANGLE)), 8)
        self.same(len(Choices(TRIANGLE, None)), 8)
        self.same(len(Choices(TRIANGLE, (1, 1, 2))), 1)
        self.same(len(Choices(Web(0), ())), 1)
        self.same(len(Choices(Web(1), (0,))), 1)

    def test_no_index(self):
        for web, row in ((TRIANGLE, None), (Web(0), None), (Web(1), (0,)), (line(4, 2), (1, 2, 2, 1)), (TRIANGLE, (1, 1, 1))):
            listed = Choices(web, row)
            many = len(listed)
            for index in (-1, many, many + 1, -many, 10 ** 30, True, False, slice(0, 1), Agreeing(), *NO_INTEGERS):
                error = self.fails(NoIndex, {}, lambda: listed[index])
                self.assertIs(error.index, index)

    def test_no_choice(self):
        listed, few = Choices(TRIANGLE), Choices(TRIANGLE, (1, 1, 2))
        outside = [Web(0), Web(1), Web(2), Web(4), Web(4, [(0, 1, 1)]), Web(3, [(0, 1, 2)]), Web(3, [(0, 1, MOST)]),
                   Draft(Web(3)), Agreeing(), (0, 0, 0), [0, 0, 0], 0, 1, -1]
        for thing in [*outside, *NO_INTEGERS]:
            self.truth(thing in listed, False, repr(thing))
            self.assertIs(self.fails(NoChoice, {}, listed.number_of, thing).kept, thing)
        for kept in all_choices(TRIANGLE):
            self.truth(kept in few, kept.degrees == (1, 1, 2))
            if kept.degrees != (1, 1, 2):
                self.assertIs(self.fails(NoChoice, {}, few.number_of, kept).kept, kept)

    def test_webs_of_other_sizes_without_bundles(self):
        # The numbers of a web of one place are those of one without places.
        self.truth(Web(1) in Choices(Web(0)), False)
        self.truth(Web(0) in Choices(Web(1)), False)
        self.fails(NoChoice, {"kept": Web(1)}, Choices(Web(0)).number_of, Web(1))
        self.same(Choices(Web(1)).number_of(Web(1)), 0)

    def test_is_not_iterated(self):
        with self.assertRaises(TypeError):
            iter(Choices(TRIANGLE))

    def test_is_not_changed_by_what_is_asked(self):
        listed = Choices(TRIANGLE)
        for _ in range(2):
            self.same([listed[at].ties for at in range(8)], [kept.ties for kept in plain_choices(TRIANGLE)])


class Limits(Case):
    def asked(self, web, row=None):
        return [(choices, (web,)), (granted_rows, (web,)), (row_counts, (web,)), (Choices, (web,)),
                (choices, (web, row)), (Choices, (web, row))]

    def test_too_many_choices(self):
        for web in ONE_MORE:
            for call, arguments in self.asked(web, (1,) + (0,) * (web.size - 1)):
                self.fails(TooMany, {"limit": 1024}, call, *arguments)

    def test_too_many_places_come_first(self):
        for web in (Web(6), Web(60), line(6, 1), complete(6, 1), complete(60, MOST)):
            for call, arguments in self.asked(web, (0,) * web.size):
                self.fails(TooMany, {"limit": 5}, call, *arguments)

    def test_webs_at_the_limits(self):
        for web in JUST + (Web(5), line(5, 4)):
            for call, arguments in self.asked(web, (0,) * web.size):
                call(*arguments)
        self.same(multiplied([n + 1 for n in numbers(line(5, 4))]), 625)


class Against(Case):
    def test_each_row_of_all_small_webs(self):
        for sizes in itertools.product(range(3), repeat=3):
            web = Web(3, [(u, v, n) for (u, v), n in zip(pairs_of(3), sizes)])
            everything = plain_choices(web)
            for row in itertools.product(*[range(-1, degree + 2) for degree in web.degrees]):
                self.same(choices(web, row), [kept for kept in everything if kept.degrees == row])


if __name__ == "__main__":
    unittest.main()
