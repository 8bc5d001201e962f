"""[1], [5] to [16]: what one function tells agrees with what the others tell."""

import itertools
import unittest

from contentties.best import best, best_rows, descent, is_best
from contentties.cases import ceiling, is_tree, some
from contentties.corners import charter, corner_rows, is_charter
from contentties.desk import Desk
from contentties.errors import Barred
from contentties.game import in_turn, is_keeper, is_wisher
from contentties.grants import closest, grant
from contentties.lacks import lack
from contentties.listing import Choices, choices, granted_rows, row_counts
from contentties.lots import distance, excess, is_choice, is_lots, is_row, parity
from contentties.moves import is_way, near_rows, way
from contentties.notation import read, write
from contentties.shapes import beside, complete, moved, renamed
from contentties.spans import span
from contentties.spares import lean, nearest_barred, settled, spare
from contentties.tables import distances, is_tables, squares
from contentties.told import fronts_hold, parting, told_back
from contentties.turns import is_trail, is_turn, trail, turn, turned
from contentties.wants import Want
from contentties.webs import Web
from contentties.widest import ahead, widest
from contentties.worst import every, has_row, is_out_of, is_wants, least_excess, worst
from tests.helpers import Case, all_choices, members, multiplied, pairs_of, plain_lots, random_row, random_web, rows_from, seeded


def small_web(rng):
    """A web with at most 100 choices."""
    while True:
        web = random_web(rng, rng.choice((0, 1, 2, 3, 3, 4, 4, 5)), rng.choice((1, 1, 2, 3)), rng.choice((0, 0.3, 0.6)))
        if multiplied([number + 1 for _, _, number in web.ties]) <= 100:
            return web


def some_wants(rng, web):
    """Wants most of which a web can meet, so that every tells all three answers at times."""
    kind = rng.randrange(3)
    if kind == 0:
        return tuple(Want(*[rng.randint(0, degree) for _ in range(rng.randint(1, 2))]) for degree in web.degrees)
    if kind == 1:
        return tuple(Want(degree // 2, (degree + 1) // 2) for degree in web.degrees)
    return tuple(Want(*[rng.randint(-1, degree + 1) for _ in range(rng.randint(1, 3))]) for degree in web.degrees)


class Rows(Case):
    def test_one_row(self):
        rng = seeded(600)
        for _ in range(40):
            web = small_web(rng)
            counts, rows = row_counts(web), granted_rows(web)
            for row in rng.sample(rows, min(3, len(rows))) + [random_row(rng, web, 2) for _ in range(4)]:
                amount, lots = lack(web, row)
                self.same(amount % 2, parity(row))
                self.same(amount, -excess(web, row, lots))
                self.same(amount, max(-excess(web, row, other) for other in plain_lots(web.size)))
                self.same(amount, min(distance(row, other) for other in rows))
                self.same(amount, distance(closest(web, row).degrees, row))
                self.same(amount, best(web, distances(web, row))[0])
                self.truth(row in counts, amount == 0)
                self.same(len(choices(web, row)), counts.get(row, 0))
                self.same(len(Choices(web, row)), counts.get(row, 0))
                self.granted_or_barred(web, row, amount)

    def granted_or_barred(self, web, row, amount):
        if amount == 0:
            kept = grant(web, row)
            self.truth(is_choice(web, row, kept) and kept in Choices(web, row), True)
            self.same(descent(web, distances(web, row), (0,) * web.size)[-1], row)
        else:
            error = self.fails(Barred, {"row": row}, grant, web, row)
            self.assertLess(excess(web, row, error.lots), 0)
            self.fails(Barred, {"row": row}, way, web, row, row)
            self.fails(Barred, {"row": row}, descent, web, distances(web, row), row)
        for u, v in pairs_of(web.size)[:3]:
            self.same(members(span(web, row, u, v)), sorted({kept[u, v] for kept in choices(web, row)}))

    def test_mirrors(self):
        rng = seeded(601)
        for _ in range(20):
            web = small_web(rng)
            row = random_row(rng, web, 1)
            left = tuple(d - x for d, x in zip(web.degrees, row))
            self.same(lack(web, row)[0], lack(web, left)[0])
            self.same(len(choices(web, row)), len(choices(web, left)))
            wants = some_wants(rng, web)
            mirrored = tuple(d - want for d, want in zip(web.degrees, wants))
            self.same(every(web, wants)[0], every(web, mirrored)[0])
            self.same(some(web, wants)[0], some(web, mirrored)[0])

    def test_moves_and_turns(self):
        rng = seeded(602)
        for _ in range(20):
            web = small_web(rng)
            one, other = rng.choice(list(all_choices(web))), rng.choice(list(all_choices(web)))
            rows = way(web, one.degrees, other.degrees)
            self.truth(is_way(web, one.degrees, other.degrees, rows), True)
            self.truth(set(rows) <= set(granted_rows(web)), True)
            if one.degrees == other.degrees:
                self.truth(is_turn(one, other, turn(one, other)), True)
            # Trails lead from one choice to some choice with the row of the other, a turn from there to the other.
            here = one
            while here.degrees != other.degrees:
                place = next(v for v in range(web.size) if here.degrees[v] != other.degrees[v])
                sign = 1 if here.degrees[place] < other.degrees[place] else -1
                walk = trail(here, other, (place, sign))
                self.truth(is_trail(here, other, (place, sign), walk), True)
                nearer = turned(here, walk, sign)
                self.same(distance(here.degrees, other.degrees) - distance(nearer.degrees, other.degrees), 2)
                self.truth(nearer.within(web), True)
                here = nearer
            self.same(turned(here, turn(here, other), 1), other)

    def test_convex_displeasures(self):
        rng = seeded(603)
        for _ in range(15):
            web = small_web(rng)
            wish = random_row(rng, web, 3)
            for tables in (distances(web, wish), squares(web, wish)):
                self.truth(is_tables(web, tables), True)
                found = best(web, tables)
                self.truth(is_best(web, tables, found), True)
                self.assertIn(found[1].degrees, best_rows(web, tables))
                for row, lots in found[2]:
                    self.assertIn(row, near_rows(web, found[1].degrees))
                    self.truth(is_row(web, row) and is_lots(web, lots) and lack(web, row)[0] > 0, True)

    def test_complete_webs(self):
        rng = seeded(604)
        for size, number in ((2, 3), (3, 2), (4, 1), (5, 1), (5, 7)):
            web = complete(size, number)
            for _ in range(15):
                row = tuple(abs(x) for x in random_row(rng, web, 1))
                if parity(row) == 0:
                    self.truth(fronts_hold(number, row), lack(web, row)[0] == 0)


class Wants(Case):
    def test_every_row(self):
        rng = seeded(605)
        told = {"none": 0, "every": 0, "barred": 0}
        for _ in range(60):
            web = small_web(rng)
            wants = some_wants(rng, web)
            self.truth(is_wants(web, wants), True)
            rows = rows_from(wants)
            for p in (0, 1):
                lacks = [lack(web, row)[0] for row in rows if parity(row) == p]
                found = worst(web, wants, p)
                self.truth(found is not None, has_row(wants, p))
                self.same(found and found[0], max(lacks) if lacks else None)
                sums = [least_excess(web, wants, p, lots) for lots in plain_lots(web.size)]
                self.same(found and found[0], -min(sums) if lacks else None)
            found = every(web, wants)
            told[found[0]] += 1
            self.agree(web, wants, found, set(granted_rows(web)))
        self.assertTrue(all(count > 2 for count in told.values()), told)

    def agree(self, web, wants, found, granted):
        even = rows_from(wants, 0)
        answer = "none" if not even else "every" if all(row in granted for row in even) else "barred"
        self.same(found[0], answer)
        if answer == "barred":
            self.truth(is_out_of(wants, found[1]) and found[1] not in granted, True)
            self.assertLess(excess(web, found[1], found[2]), 0)
        self.corners_agree(web, wants, answer)
        self.some_agrees(web, wants, answer, granted)
        self.game_agrees(web, wants, answer)
        self.desk_agrees(web, wants, answer)
        self.ties_agree(web, wants, answer)
        self.same(read(write(web, wants)), (web, wants))

    def corners_agree(self, web, wants, answer):
        if multiplied([len(want.corners) for want in wants]) > 64:
            return
        if answer == "barred":
            error = self.fails(Barred, {}, charter, web, wants)
            self.assertIn(error.row, corner_rows(wants, 0))
        else:
            self.truth(is_charter(web, wants, charter(web, wants)), True)
            self.same([row for row, _ in charter(web, wants)], corner_rows(wants, 0))

    def some_agrees(self, web, wants, answer, granted):
        found = some(web, wants)
        self.same(found[0], "row" if any(row in granted for row in rows_from(wants)) else "none")
        if found[0] == "row":
            self.truth(is_out_of(wants, found[1]) and found[2] in Choices(web, found[1]), True)
        else:
            self.assertNotEqual(answer, "every")
            self.truth(is_tree(web, wants, found[1]), True)
        for lots in plain_lots(web.size):
            if ceiling(web, wants, lots) < 0:
                self.same(found[0], "none")

    def game_agrees(self, web, wants, answer):
        if web.size > 4 or any(number > 2 for _, _, number in web.ties):
            return
        told, table = in_turn(web, wants)
        self.truth((is_keeper if told == "keeps" else is_wisher)(web, wants, table), True)
        if told == "keeps":
            self.assertNotEqual(answer, "barred")

    def desk_agrees(self, web, wants, answer):
        """A desk comes to a web and wants that are not barred, if it takes the wants of no even row between them."""
        desk = Desk(web.size)
        for u, v, number in web.ties:
            desk.tie(u, v, number)
        refused = False
        for place, want in enumerate(wants):
            between = wants[:place + 1] + (Want(0),) * (web.size - place - 1)
            here = desk.wants[:place] + (want,) + desk.wants[place + 1:]
            self.same(here == between, not refused)
            line = f"promise {place} {want}"
            if every(web, here)[0] == "barred":
                self.same(desk.execute(line), "barred")
                refused = True
            else:
                self.same(desk.execute(line), "done")
        self.assertNotEqual(desk.execute("every"), "barred")
        if not refused:
            self.same((desk.wants, desk.execute("every")), (wants, answer))
            self.same(desk.execute("show"), write(web, wants))
            for row in rows_from(wants, 0)[:5]:
                self.same(desk.answer(row).degrees, row)

    def ties_agree(self, web, wants, answer):
        for u, v in pairs_of(web.size)[:2]:
            can = ahead(web, wants, u, v)
            for number in range(web[u, v] + 1):
                self.truth(number in can, every(*settled(web, wants, u, v, number))[0] != "barred")
            least = spare(web, wants, u, v)
            for number in range(5):
                self.truth(every(web.changed(u, v, number), wants)[0] != "barred", least is not None and number >= least)
        if answer != "barred":
            self.assertNotEqual(every(lean(web, wants), wants)[0], "barred")
            self.truth(lean(web, wants).within(web), True)
        for place in range(web.size)[:2]:
            wide = widest(web, wants, place)
            for x in range(-1, web.degrees[place] + 2):
                fixed = wants[:place] + (Want(x),) + wants[place + 1:]
                self.truth(x in wide, every(web, fixed) == ("every",))

    def test_side_by_side(self):
        rng = seeded(606)
        for _ in range(20):
            one, other = [random_web(rng, rng.randint(0, 2), 3) for _ in range(2)]
            both = beside(one, other)
            left, right = some_wants(rng, one), some_wants(rng, other)
            amounts = [[found and found[0] for found in (worst(web, wants, 0), worst(web, wants, 1))]
                       for web, wants in ((one, left), (other, right), (both, left + right))]
            for p in (0, 1):
                sums = [amounts[0][a] + amounts[1][b] for a, b in ((0, p), (1, 1 - p))
                        if amounts[0][a] is not None and amounts[1][b] is not None]
                self.same(amounts[2][p], max(sums) if sums else None)
            a, b = random_row(rng, one), random_row(rng, other)
            self.same(lack(both, a + b)[0], lack(one, a)[0] + lack(other, b)[0])

    def test_other_names(self):
        rng = seeded(607)
        for _ in range(20):
            web = small_web(rng)
            wants = some_wants(rng, web)
            order = tuple(rng.sample(range(web.size), web.size))
            other, named = renamed(web, order), moved(wants, order)
            self.same(granted_rows(other), sorted(moved(row, order) for row in granted_rows(web)))
            self.same(every(other, named)[0], every(web, wants)[0])
            self.same(some(other, named)[0], some(web, wants)[0])
            wish = random_row(rng, web)
            self.same(best_rows(other, squares(other, moved(wish, order))),
                      sorted(moved(row, order) for row in best_rows(web, squares(web, wish))))

    def test_more_ties_and_fewer_integers(self):
        rng = seeded(608)
        for _ in range(20):
            one, other = [random_web(rng, 3, 2) for _ in range(2)]
            sums = {tuple(a + b for a, b in zip(left, right))
                    for left, right in itertools.product(granted_rows(one), granted_rows(other))}
            self.same(sorted(sums & set(granted_rows(one + other))), sorted(sums))
            wants = some_wants(rng, one)
            fewer = tuple(Want(rng.choice(members(want))) for want in wants)
            for p in (0, 1):
                few, many = worst(one, fewer, p), worst(one, wants, p)
                self.assertLessEqual(few[0] if few else 0, many[0] if many else 0)

    def test_at_most_one(self):
        # [6]: the greatest lack is at most 1 just if all even rows are granted, and odd ones after one change by 1.
        rng = seeded(609)
        for _ in range(25):
            web = small_web(rng)
            wants = some_wants(rng, web)
            rows, granted = rows_from(wants), set(granted_rows(web))
            most = max(found[0] for found in (worst(web, wants, 0), worst(web, wants, 1)) if found) if rows else 0
            near = all(row in granted if parity(row) == 0 else any(distance(row, other) == 1 for other in granted) for row in rows)
            self.truth(most <= 1, near)


class Hidden(Case):
    def test_told_back_and_parting(self):
        rng = seeded(610)
        for _ in range(8):
            one, other = [random_web(rng, 4, 2, 0.4) for _ in range(2)]
            rows = set(granted_rows(one)) if multiplied([n + 1 for _, _, n in one.ties]) <= 1024 else None
            found, asked = told_back(4, 2, lambda row: lack(one, row)[0] == 0)
            self.same(found, one)
            for row, said in asked:
                self.truth(said, row in rows if rows is not None else said)
            row = parting(one, other)
            if row is not None:
                self.truth((lack(one, row)[0] == 0) != (lack(other, row)[0] == 0), True)

    def test_nearest_barred(self):
        rng = seeded(611)
        for _ in range(15):
            web = small_web(rng)
            if web.size == 0:
                continue
            row, granted = random_row(rng, web, 0), set(granted_rows(web))
            apart, other, lots = nearest_barred(web, row)
            self.same((distance(row, other), parity(other)), (apart, 0))
            self.truth(other not in granted and excess(web, other, lots) < 0, True)
            for steps in itertools.product(range(-2, 3), repeat=web.size):
                if sum(map(abs, steps)) < apart:
                    near = tuple(x + step for x, step in zip(row, steps))
                    self.truth(parity(near) == 1 or near in granted, True)


if __name__ == "__main__":
    unittest.main()
