"""[3], [4], [15], [92], [93]: in turn."""

import inspect
import itertools
import unittest

from contentties import game as game_file
from contentties.errors import TooMany
from contentties.game import after, allowed, answers, in_turn, is_keeper, is_wisher
from contentties.shapes import complete, line, ring
from contentties.wants import Want
from contentties.webs import Web
from contentties.worst import every
from tests.helpers import NO_INTEGERS, Agreeing, Case, members, random_wants, random_web, rows_from, seeded

MOST = 10 ** 9
FAR = 10 ** 12
TRIANGLE = Web(3, [(0, 1, 1), (0, 2, 1), (1, 2, 1)])
LOST = (Want(1), Want(1), Want(0, 2))
LOSING = [((), 1), ((0, 0), 2), ((1,), 1), ((1, 1), 0)]
PAIR, GAPS = Web(2, [(0, 1, 2)]), (Want(0, 2), Want(0, 2))


def plain_allowed(wants, named):
    """The numbers with which some even row goes on that begins with what has been named."""
    rows = rows_from(wants, 0)
    return sorted({row[len(named)] for row in rows if row[:len(named)] == named})


def plain_answers(web, place):
    return list(itertools.product(*[range(web[ahead, place] + 1) for ahead in range(place)]))


def plain_wins(web, wants, named=(), settled=()):
    """Whether the keeper wins, by a walk through all plays: settled are all answers so far."""
    place = len(named)
    if place == web.size:
        ties = [(u, v, number) for v, answer in enumerate(settled) for u, number in enumerate(answer)]
        return Web(web.size, ties).degrees == named
    return all(any(plain_wins(web, wants, (*named, number), (*settled, answer)) for answer in plain_answers(web, place))
               for number in plain_allowed(wants, named))


def goes_on(wants, needs, number):
    """Whether some numbers of the places behind make the sum even."""
    rest = [members(want) for want in wants[len(needs) + 1:]]
    return any((sum(needs) + number + sum(others)) % 2 == 0 for others in itertools.product(*rest))


def plain_numbers(wants, needs):
    return [number for number in members(wants[len(needs)]) if goes_on(wants, needs, number)]


def plain_after(needs, number, answer):
    return tuple(need - kept for need, kept in zip(needs, answer)) + (number - sum(answer),)


def plain_is_keeper(web, wants, table):
    """The conditions of a keeper's table, one by one, for a list of tuples of the right form."""
    keys = [(needs, number) for needs, number, _ in table]
    if table != sorted(table) or len(set(keys)) < len(keys):
        return False
    reached = [()]
    for needs, number, answer in table:
        if len(needs) >= web.size or number not in plain_numbers(wants, needs):
            return False
        if answer not in plain_answers(web, len(needs)):
            return False
        reached.append(plain_after(needs, number, answer))
    return all(set(needs) <= {0} if len(needs) == web.size else
               all((needs, number) in keys for number in plain_numbers(wants, needs)) for needs in reached)


def plain_is_wisher(web, wants, table):
    """The conditions of a wisher's table, one by one, for a list of tuples of the right form."""
    keys = [needs for needs, _ in table]
    if table != sorted(table) or len(set(keys)) < len(keys) or () not in keys:
        return False
    reached = []
    for needs, number in table:
        if len(needs) >= web.size or number not in plain_numbers(wants, needs):
            return False
        reached.extend(plain_after(needs, number, answer) for answer in plain_answers(web, len(needs)))
    return all(any(needs) if len(needs) == web.size else needs in keys for needs in reached)


def some_games(rng, times):
    """Webs of at most 4 places with wants of at most 3 numbers; most numbers fit, so that both sides win at times."""
    for _ in range(times):
        size = rng.choice((1, 2, 3, 3, 4))
        web = random_web(rng, size, rng.choice((1, 2, 2)), rng.choice((0, 0.3, 0.6)))
        kind = rng.choice((1, 2, 3))
        if kind == 3:
            yield web, random_wants(rng, web, 3, 1)
        else:
            yield web, tuple(Want(*[rng.randint(0, min(degree, kind)) for _ in range(kind)]) for degree in web.degrees)


class Interface(Case):
    def test_names_and_arguments(self):
        for name, arguments in {"in_turn": ["web", "wants"], "is_keeper": ["web", "wants", "thing"],
                                "is_wisher": ["web", "wants", "thing"], "allowed": ["web", "wants", "needs"],
                                "answers": ["web", "wants", "needs"], "after": ["needs", "number", "answer"]}.items():
            call = getattr(game_file, name)
            self.assertEqual(list(inspect.signature(call).parameters), arguments)
            self.assertEqual(call.__module__, "contentties.game")

    def test_example(self):
        self.same([in_turn(TRIANGLE, LOST)[0], is_wisher(TRIANGLE, LOST, LOSING)], ["loses", True])
        self.same(every(TRIANGLE, LOST), ("every",))


class Parts(Case):
    def test_allowed(self):
        wants = (Want(0, 1, 4), Want(1), Want(2, 3))
        self.same(allowed(TRIANGLE, wants, ()), [0, 1, 4])
        self.same(allowed(TRIANGLE, wants, (0,)), [1])
        self.same(allowed(TRIANGLE, wants, (0, 1)), [3])
        self.same(allowed(TRIANGLE, wants, (-7, 8)), [3])
        self.same(allowed(TRIANGLE, wants, (-7, 7)), [2])
        self.same(allowed(TRIANGLE, (Want(0, 1), Want(1), Want(2)), ()), [1])
        self.same(allowed(TRIANGLE, (Want(0, 2), Want(1), Want(2)), ()), [])
        self.same(allowed(Web(1), (Want(-1, 0, 3),), ()), [0])
        self.same(allowed(PAIR, (Want(-5, 4, 7) + FAR, Want(3)), ()), [FAR - 5, FAR + 7])

    def test_allowed_begins_even_rows(self):
        rng = seeded(550)
        for web, wants in some_games(rng, 40):
            for many in range(web.size):
                for named in {row[:many] for row in rows_from(wants)}:
                    self.same(allowed(web, wants, named), plain_numbers(wants, named))
                    self.same(allowed(web, wants, named), plain_allowed(wants, named))

    def test_answers(self):
        wants = (Want(0),) * 4
        self.same(answers(complete(4, 2), wants, ()), [()])
        self.same(answers(complete(4, 2), wants, (5,)), [(0,), (1,), (2,)])
        self.same(answers(TRIANGLE, wants[:3], (0, 0)), [(0, 0), (0, 1), (1, 0), (1, 1)])
        self.same(answers(Web(3, [(1, 2, 2)]), wants[:3], (0, -9)), [(0, 0), (0, 1), (0, 2)])
        self.same(len(answers(complete(4, 2), wants, (1, 2, 3))), 27)
        for web in (complete(4, 2), ring(4, 1), line(4, 2)):
            for many in range(4):
                self.same(answers(web, wants, (FAR,) * many), plain_answers(web, many))

    def test_after(self):
        self.same(after((), 3, ()), (3,))
        self.same(after((1, 2), 3, (1, 0)), (0, 2, 2))
        self.same(after((-1, FAR), -FAR, (2, 1)), (-3, FAR - 1, -FAR - 3))
        # There is no limit to what it takes.
        self.same(after((0,) * 9, 9, (1,) * 9), (-1,) * 9 + (0,))

    def test_new_lists(self):
        for ask in (lambda: allowed(TRIANGLE, LOST, ()), lambda: answers(TRIANGLE, LOST, (0,)),
                    lambda: in_turn(TRIANGLE, LOST)[1]):
            found = ask()
            expected = list(found)
            found.clear()
            self.same(ask(), expected)


class InTurn(Case):
    def check(self, web, wants):
        found = in_turn(web, wants)
        self.assertIs(type(found), tuple)
        told, table = found
        wins = plain_wins(web, wants)
        self.same(told, "keeps" if wins else "loses", )
        self.assertIs(type(table), list)
        self.truth((plain_is_keeper if wins else plain_is_wisher)(web, wants, table), True, f"{web.ties} {found}")
        self.truth(is_keeper(web, wants, table), wins)
        self.truth(is_wisher(web, wants, table), not wins)
        if wins:
            self.assertNotEqual(every(web, wants)[0], "barred")
        if web.size < 3:
            self.truth(wins, every(web, wants)[0] != "barred")
        return told

    def test_against_all_plays(self):
        rng = seeded(551)
        told = [self.check(web, wants) for web, wants in some_games(rng, 150)]
        self.assertGreater(told.count("keeps"), 15)
        self.assertGreater(told.count("loses"), 15)

    def test_all_webs_of_two_places(self):
        wants = [Want(*numbers) for many in (1, 2, 3) for numbers in itertools.combinations(range(4), many)]
        for number in range(3):
            for one, other in itertools.product(wants, repeat=2):
                self.check(Web(2, [(0, 1, number)]), (one, other))

    def test_few_places(self):
        self.same(in_turn(Web(0), ()), ("keeps", []))
        self.same(in_turn(Web(1), (Want(0),)), ("keeps", [((), 0, ())]))
        self.same(in_turn(Web(1), (Want(2),)), ("loses", [((), 2)]))
        # There is no allowed number.
        self.same(in_turn(Web(1), (Want(-3, 1),)), ("keeps", []))
        self.same(in_turn(PAIR, (Want(0, 2), Want(1))), ("keeps", []))
        self.same(in_turn(complete(4, 2), (Want(1) + FAR, Want(0), Want(2), Want(4))), ("keeps", []))
        self.same(in_turn(Web(1), (Want(0) + FAR,)), ("loses", [((), FAR)]))

    def test_large_games(self):
        full = complete(4, 2)
        self.same(self.check(full, (Want(3),) * 4), "keeps")
        self.same(self.check(full, (Want(6), Want(6), Want(6), Want(4, 6))), "loses")
        for wants in ((Want(2, 3, 4),) * 4, (Want(0, 1, 2), Want(1, 2, 3), Want(2, 3, 4), Want(0, 2, 4))):
            told, table = in_turn(full, wants)
            self.truth((plain_is_keeper if told == "keeps" else plain_is_wisher)(full, wants, table), True)

    def test_needs_that_several_plays_come_to(self):
        full = complete(4, 2)
        for lost, wants, told in (
                (((0, 1, 1), (1, 2, 1), (1, 3, 2)), (Want(1), Want(0, 2), Want(2), Want(0, 1)), "keeps"),
                (((1, 3, 1), (2, 3, 1)), (Want(1, 3), Want(3), Want(1, 2), Want(0, 1)), "keeps"),
                (((0, 1, 1), (0, 2, 1), (2, 3, 1)), (Want(3), Want(0, 1), Want(1, 3), Want(1, 2, 3)), "loses"),
                (((0, 1, 1), (1, 2, 1), (1, 3, 2)), (Want(0, 2), Want(0), Want(0, 2), Want(0, 3)), "loses")):
            self.same(self.check(full - Web(4, lost), wants), told)
        rng = seeded(554)
        for _ in range(60):
            web = Web(4, [(u, v, rng.randint(1, 2)) for u, v in itertools.combinations(range(4), 2)])
            wants = tuple(Want(*[rng.randint(0, 3) for _ in range(rng.randint(1, 2))]) for _ in range(4))
            told, table = in_turn(web, wants)
            self.truth((plain_is_keeper if told == "keeps" else plain_is_wisher)(web, wants, table), True)

    def test_the_order_of_places_counts(self):
        # The same web and wants, the place with two numbers being the last or the first one.
        self.same(self.check(TRIANGLE, LOST), "loses")
        self.same(self.check(TRIANGLE, (LOST[2], LOST[0], LOST[1])), "keeps")


class IsKeeper(Case):
    def setUp(self):
        self.web, self.wants = TRIANGLE, (Want(0, 2), Want(1), Want(1))
        told, self.table = in_turn(self.web, self.wants)
        self.same(told, "keeps")

    def told(self, table, right):
        self.truth(is_keeper(self.web, self.wants, table), right, repr(table))

    def test_each_entry_is_needed(self):
        self.told(self.table, True)
        for at in range(len(self.table)):
            self.told(self.table[:at] + self.table[at + 1:], False)
        self.told([], False)

    def test_ascending_and_once(self):
        for at in range(len(self.table) - 1):
            self.told(self.table[:at] + [self.table[at + 1], self.table[at]] + self.table[at + 2:], False)
        self.told(self.table[::-1], False)
        for at, entry in enumerate(self.table):
            self.told(self.table[:at] + [entry] + self.table[at:], False)

    def test_two_answers_that_both_do(self):
        # Whether place 1 gives place 0 its tie or not, the other places make up for it.
        web, wants = ring(4, 1), (Want(1), Want(1), Want(1), Want(1))
        told, table = in_turn(web, wants)
        self.same(told, "keeps")
        wins = [entry for entry in self.all_entries(web, wants) if self.wins_behind(web, wants, entry)]
        twice = [entry for entry in wins if [(e[0], e[1]) for e in wins].count(entry[:2]) > 1]
        self.assertNotEqual(twice, [])
        keys = sorted({entry[:2] for entry in wins})
        one = sorted(next(entry for entry in wins if entry[:2] == key) for key in keys)
        other = sorted(next(entry for entry in wins[::-1] if entry[:2] == key) for key in keys)
        self.assertNotEqual(one, other)
        for found, right in ((table, True), (one, True), (other, True), (sorted(wins), False)):
            self.truth(is_keeper(web, wants, found), right)
            self.truth(plain_is_keeper(web, wants, found), right)

    def all_entries(self, web, wants):
        """All entries that plays can come to."""
        left, found = [()], []
        while left:
            needs = left.pop()
            for number in plain_numbers(wants, needs) if len(needs) < web.size else []:
                for answer in plain_answers(web, len(needs)):
                    found.append((needs, number, answer))
                    left.append(plain_after(needs, number, answer))
        return sorted(set(found))

    def wins_behind(self, web, wants, entry):
        needs = plain_after(*entry)
        if len(needs) == web.size:
            return not any(needs)
        return all(any(self.wins_behind(web, wants, (needs, number, answer))
                       for answer in plain_answers(web, len(needs))) for number in plain_numbers(wants, needs))

    def test_other_answers(self):
        for at, (needs, number, answer) in enumerate(self.table):
            for other in itertools.product((-1, 0, 1, 2), repeat=len(answer)):
                table = self.table[:at] + [(needs, number, other)] + self.table[at + 1:]
                self.told(table, plain_is_keeper(self.web, self.wants, table))
            for other in ((*answer, 0), answer[:-1] if answer else (0,), None, list(answer), number):
                self.told(self.table[:at] + [(needs, number, other)] + self.table[at + 1:], False)

    def test_answers_within_bundles(self):
        # The needs behind (2,) would be all 0, but the bundle has one tie.
        one = Web(2, [(0, 1, 1)])
        self.truth(is_keeper(one, (Want(2), Want(2)), [((), 2, ()), ((2,), 2, (2,))]), False)
        self.truth(is_keeper(PAIR, (Want(2), Want(2)), [((), 2, ()), ((2,), 2, (2,))]), True)
        self.truth(is_keeper(PAIR, (Want(-1), Want(-1)), [((), -1, ()), ((-1,), -1, (-1,))]), False)

    def test_numbers_that_are_not_allowed(self):
        for extra in (((), 1, ()), ((), 4, ()), ((1,), 0, (0,)), ((0,), 3, (0,)), ((0, 0), 1, (0, 0))):
            self.told(sorted(self.table + [extra]), False)

    def test_needs_of_less_than_all_places(self):
        self.told(self.table + [((0, 0, 0), 0, (0, 0, 0))], False)
        self.told(self.table + [((0, 0, 0, 0), 1, (0, 0, 0, 0))], False)
        self.truth(is_keeper(Web(0), (), [((), 0, ())]), False)

    def test_entries_that_no_play_comes_to(self):
        wide, wants = Web(3, [(0, 1, 1), (0, 2, 1), (1, 2, 2)]), (Want(1), Want(1), Want(2))
        told, found = in_turn(wide, wants)
        self.same(told, "keeps")
        # What stands behind them must hold, too: all 0 in the end, or further entries.
        for extra, right in ((((0, 2), 2, (0, 2)), True), (((0, 2), 2, (0, 1)), False), (((7, -9), 2, (0, 0)), False),
                             (((4,), 1, (1,)), False)):
            table = sorted(found + [extra])
            self.truth(is_keeper(wide, wants, table), right, extra)
            self.truth(plain_is_keeper(wide, wants, table), right, extra)

    def test_random_changes(self):
        rng = seeded(552)
        for web, wants in some_games(rng, 60):
            told, table = in_turn(web, wants)
            if told == "loses" or not table:
                continue
            for _ in range(8):
                changed = list(table)
                at = rng.randrange(len(changed))
                needs, number, answer = changed[at]
                kind = rng.randrange(4)
                if kind == 0:
                    changed.pop(at)
                elif kind == 1:
                    changed[at] = (needs, number, tuple(rng.randint(0, 2) for _ in answer))
                elif kind == 2:
                    changed[at] = (needs, rng.randint(-1, 4), answer)
                else:
                    changed.append((tuple(rng.randint(-1, 2) for _ in needs), number, answer))
                changed.sort()
                self.truth(is_keeper(web, wants, changed), plain_is_keeper(web, wants, changed), f"{web.ties} {changed}")

    def test_wrong_values(self):
        first = self.table[0]
        rest = self.table[1:]
        wrong = [tuple(self.table), [list(first), *rest], [first[:2], *rest], [(*first, 0), *rest], [([], 0, ()), *rest],
                 [((), False, ()), *rest], [((), 0, []), *rest], [((), "0", ()), *rest], [((), None, ()), *rest],
                 [(None, 0, ()), *rest], [(0, 0, ()), *rest], [((), 0, None), *rest], [Agreeing(), *rest],
                 [((), Agreeing(), ()), *rest], [(Agreeing(), 0, ()), *rest], [((), 0, Agreeing()), *rest], Agreeing(),
                 [None, *rest], [self.table], dict.fromkeys(range(3)), [first, first[0], *rest]]
        self.told(self.table, True)
        for thing in wrong + list(NO_INTEGERS) + [0, 1, LOSING]:
            self.told(thing, False)
        for thing in NO_INTEGERS:
            self.truth(is_keeper(Web(0), (), thing), isinstance(thing, list) and not thing, repr(thing))

    def test_truths_are_no_integers(self):
        right = [((), 1, ()), ((1,), 1, (1,))]
        self.truth(is_keeper(PAIR, (Want(1), Want(1)), right), True)
        for table in ([((), True, ()), right[1]], [right[0], ((True,), 1, (1,))], [right[0], ((1,), True, (1,))],
                      [right[0], ((1,), 1, (True,))]):
            self.truth(is_keeper(PAIR, (Want(1), Want(1)), table), False)


class IsWisher(Case):
    def told(self, table, right):
        self.truth(is_wisher(TRIANGLE, LOST, table), right, repr(table))

    def test_each_entry_is_needed(self):
        self.told(LOSING, True)
        for at in range(len(LOSING)):
            self.told(LOSING[:at] + LOSING[at + 1:], False)
        self.told([], False)

    def test_ascending_and_once(self):
        for at in range(3):
            self.told(LOSING[:at] + [LOSING[at + 1], LOSING[at]] + LOSING[at + 2:], False)
        for at, entry in enumerate(LOSING):
            self.told(LOSING[:at] + [entry] + LOSING[at:], False)
        self.truth(is_wisher(Web(1), (Want(2, 4),), [((), 2)]), True)
        self.truth(is_wisher(Web(1), (Want(2, 4),), [((), 4)]), True)
        self.truth(is_wisher(Web(1), (Want(2, 4),), [((), 2), ((), 4)]), False)

    def test_numbers_that_do_not_win(self):
        for at, (needs, number) in enumerate(LOSING):
            for other in range(-2, 5):
                table = LOSING[:at] + [(needs, other)] + LOSING[at + 1:]
                self.told(table, plain_is_wisher(TRIANGLE, LOST, table))
        # In the end all is 0 behind the answer (0,).
        self.truth(is_wisher(Web(1), (Want(0),), [((), 0)]), False)
        self.truth(is_wisher(PAIR, GAPS, [((), 0), ((0,), 0)]), False)
        self.truth(is_wisher(PAIR, GAPS, [((), 0), ((0,), 2)]), True)

    def test_numbers_that_are_not_allowed(self):
        # The number is in the want, but no even row goes on with it; or it is not in the want.
        self.truth(is_wisher(Web(1), (Want(1, 2),), [((), 1)]), False)
        self.truth(is_wisher(Web(1), (Want(1, 2),), [((), 2)]), True)
        self.truth(is_wisher(Web(1), (Want(1, 2),), [((), 4)]), False)
        self.told(sorted(LOSING + [((0, 1), 0)]), False)

    def test_needs_of_less_than_all_places(self):
        self.told(LOSING + [((0, 0, 0), 0)], False)
        self.told(LOSING + [((1, 1, 0, 0), 1)], False)
        for table in ([], [((), 0)], [()]):
            self.truth(is_wisher(Web(0), (), table), False)

    def test_entries_that_no_play_comes_to(self):
        for extra, right in ((((5, 5), 2), True), (((-1, -1), 0), True), (((1, 0), 2), False), (((0, 2), 0), True),
                             (((3,), 1), False)):
            table = sorted(LOSING + [extra])
            self.told(table, right)
            self.truth(plain_is_wisher(TRIANGLE, LOST, table), right)

    def test_no_table_where_the_keeper_wins(self):
        # There is no allowed number at the first place.
        for table in ([], [((), 0)], [((), 2)], [((), 1)]):
            self.truth(is_wisher(PAIR, (Want(0, 2), Want(1)), table), False)

    def test_random_changes(self):
        rng = seeded(553)
        for web, wants in some_games(rng, 60):
            told, table = in_turn(web, wants)
            if told == "keeps":
                continue
            for _ in range(8):
                changed = list(table)
                at = rng.randrange(len(changed))
                needs, number = changed[at]
                kind = rng.randrange(3)
                if kind == 0:
                    changed.pop(at)
                elif kind == 1:
                    changed[at] = (needs, rng.choice(members(wants[len(needs)]) + [rng.randint(-1, 4)]))
                else:
                    changed.append((tuple(rng.randint(-1, 2) for _ in needs), number))
                changed.sort()
                self.truth(is_wisher(web, wants, changed), plain_is_wisher(web, wants, changed), f"{web.ties} {changed}")

    def test_wrong_values(self):
        first, rest = LOSING[0], LOSING[1:]
        wrong = [tuple(LOSING), [list(first), *rest], [((),), *rest], [((), 1, ()), *rest], [([], 1), *rest],
                 [((), True), *rest], [((), "1"), *rest], [((), None), *rest], [(None, 1), *rest], [(1, 1), *rest],
                 [Agreeing(), *rest], [((), Agreeing()), *rest], [(Agreeing(), 1), *rest], Agreeing(), [None, *rest],
                 [LOSING], [*LOSING[:2], ((True,), 1), LOSING[3]], [*LOSING[:3], ((1, True), 0)],
                 [*LOSING[:3], ((1, 1), False)], [first, ((0, 0), 2, ()), *rest[1:]]]
        self.told(LOSING, True)
        for thing in wrong + list(NO_INTEGERS) + [0, 1]:
            self.told(thing, False)
            self.truth(is_wisher(Web(0), (), thing), False, repr(thing))


class Limits(Case):
    def asked(self, web, wants):
        return [(in_turn, (web, wants)), (is_keeper, (web, wants, [])), (is_wisher, (web, wants, None)),
                (allowed, (web, wants, ())), (answers, (web, wants, ()))]

    def test_the_order_of_errors(self):
        few, many = Want(0, 1, 2), Want(0, 1, 2, 3)
        for web, want, limit in ((complete(5, 3), many, 4), (Web(5), few, 4), (complete(60, MOST), many, 4),
                                 (complete(4, 3), many, 2), (complete(4, 3), few, 2), (Web(2, [(0, 1, 3)]), few, 2),
                                 (Web(4, [(2, 3, MOST)]), many, 2), (complete(4, 2), many, 3), (Web(1), many, 3),
                                 (Web(1), Want.between(-MOST, MOST), 3)):
            for call, arguments in self.asked(web, (few,) * (web.size - 1) + (want,)):
                self.fails(TooMany, {"limit": limit}, call, *arguments)
            for call, arguments in self.asked(web, (want,) + (few,) * (web.size - 1)):
                self.fails(TooMany, {"limit": limit}, call, *arguments)

    def test_games_at_the_limits(self):
        for web in (Web(4), complete(4, 2), Web(0)):
            for call, arguments in self.asked(web, (Want(0, 1, 2),) * web.size)[:3]:
                call(*arguments)


if __name__ == "__main__":
    unittest.main()
