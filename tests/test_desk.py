"""[3], [4], [15], [102], [103]: desk."""

import inspect
import unittest

from contentties import desk as desk_file
from contentties.desk import Desk
from contentties.drafts import Draft
from contentties.errors import Barred, ContentError, NoCommand, Nothing, TooMany, Wrong
from contentties.grants import grant
from contentties.lots import is_choice, is_lots
from contentties.notation import write, write_web
from contentties.spares import settled
from contentties.wants import Want
from contentties.webs import Web
from contentties.worst import every
from tests.helpers import NO_INTEGERS, Agreeing, Case, granted, multiplied, plain_excess, rows_from, same, seeded

MOST = 10 ** 9
EXAMPLE = ["tie 0 1 3", "promise 0 0, 3", "promise 1 0..2/2", "answer 3 3", "promise 1 0, 3"]


def example():
    desk = Desk(2)
    for line in EXAMPLE:
        desk.execute(line)
    return desk


def full():
    """A desk with 40 entries."""
    desk = Desk(3)
    for at in range(40):
        desk.tie(0, 1, at)
    return desk


def bars(web, wants):
    """Whether some even row from small wants is not granted, by going through all choices."""
    rows = granted(web)
    return any(row not in rows for row in rows_from(wants, 0))


class Plain:
    """A desk, plainly: the list of all that it held, and the entries between them."""

    def __init__(self, size):
        self.held = [(Web(size), (Want(0),) * size)]
        self.entries = []
        self.redone = []

    def do(self, entry):
        web, wants = self.held[-1]
        if entry[0] == "tie":
            web = web.changed(*entry[1:])
        elif entry[0] == "promise":
            wants = wants[:entry[1]] + (entry[2],) + wants[entry[1] + 1:]
        else:
            _, u, v, number = entry
            web = web.changed(u, v, 0)
            wants = tuple(want - number if place in (u, v) else want for place, want in enumerate(wants))
        if len(self.entries) == 40:
            return "full"
        if every(web, wants)[0] == "barred":
            return "barred"
        self.held.append((web, wants))
        self.entries.append(entry)
        self.redone.clear()
        return "done"

    def undo(self):
        if not self.entries:
            return "nothing"
        self.redone.append((self.entries.pop(), self.held.pop()))
        return "done"

    def redo(self):
        if not self.redone:
            return "nothing"
        entry, held = self.redone.pop()
        self.entries.append(entry)
        self.held.append(held)
        return "done"

    def copied(self):
        other = Plain(0)
        other.held, other.entries, other.redone = list(self.held), list(self.entries), list(self.redone)
        return other


def said(call, *arguments):
    """What a deed comes to: done, or the name of its error."""
    names = {TooMany: "full", Barred: "barred", Nothing: "nothing", Wrong: "wrong"}
    try:
        result = call(*arguments)
    except ContentError as error:
        return names[type(error)]
    assert result is None
    return "done"


class DeskCase(Case):
    def is_like(self, desk, plain):
        web, wants = plain.held[-1]
        self.same((desk.web, desk.wants), (web, wants))
        self.same(desk.log, plain.entries)
        self.same(len(desk), len(plain.entries))
        self.assertNotEqual(every(desk.web, desk.wants)[0], "barred")

    def holds(self, desk):
        """What can be seen of a desk, with what can be redone."""
        copy, redone = desk.copied(), []
        while said(copy.redo) == "done":
            redone.append((copy.web, copy.wants, copy.log))
        return desk.web, desk.wants, desk.log, len(desk), redone

    def stays(self, desk, call, *arguments):
        """A call with an error changes nothing."""
        before = self.holds(desk)
        with self.assertRaises(ContentError):
            call(*arguments)
        self.same(self.holds(desk), before)


class Interface(Case):
    def test_names_and_arguments(self):
        self.assertEqual(Desk.__module__, "contentties.desk")
        self.assertIs(desk_file.Desk, Desk)
        self.assertEqual(list(inspect.signature(Desk).parameters), ["size"])
        for name, arguments in {"tie": ["u", "v", "number"], "promise": ["place", "want"], "settle": ["u", "v", "number"],
                                "undo": [], "redo": [], "answer": ["row"], "copied": [], "execute": ["line"],
                                "tried": ["lines"]}.items():
            self.assertIn(name, vars(Desk))
            self.assertEqual(list(inspect.signature(vars(Desk)[name]).parameters), ["self", *arguments])
        self.assertIn("__len__", vars(Desk))

    def test_example(self):
        desk = Desk(2)
        self.same([desk.execute(line) for line in EXAMPLE], ["done", "done", "barred", "web 2 0-1=3", "done"])
        self.same([desk.tried(["tie 0 1 2", "undo", "every"]), len(desk)], [["barred", "done", "every"], 3])


class Beginning(Case):
    def test_at_first(self):
        for size in range(6):
            desk = Desk(size)
            self.same((desk.web, desk.wants, desk.log, len(desk)), (Web(size), (Want(0),) * size, [], 0))
            self.same(every(desk.web, desk.wants), ("every",))

    def test_wrong_sizes(self):
        for size in (-1, 6, 60, 10 ** 30, Agreeing(), *NO_INTEGERS):
            self.fails(Wrong, {"place": 0}, Desk, size)

    def test_results_belong_to_the_caller(self):
        desk = example()
        desk.log.clear()
        desk.log.append("x")
        self.same(desk.log, [("tie", 0, 1, 3), ("promise", 0, Want(0, 3)), ("promise", 1, Want(0, 3))])
        self.same(len(desk), 3)
        lines = ["every", "show"]
        desk.tried(lines).clear()
        self.same(lines, ["every", "show"])


class Ties(DeskCase):
    def test_entries(self):
        desk = Desk(3)
        self.assertIsNone(desk.tie(0, 1, 3))
        self.assertIsNone(desk.tie(2, 0, MOST))
        self.assertIsNone(desk.tie(1, 0, 2))
        self.same(desk.log, [("tie", 0, 1, 3), ("tie", 2, 0, MOST), ("tie", 1, 0, 2)])
        self.same(desk.web.ties, ((0, 1, 2), (0, 2, MOST)))
        self.same(desk.wants, (Want(0),) * 3)

    def test_wrong(self):
        desk = Desk(3)
        for u in (-1, 3, 10 ** 30, Agreeing(), *NO_INTEGERS):
            self.fails(Wrong, {"place": 0}, desk.tie, u, 1, 1)
            self.fails(Wrong, {"place": 0}, desk.tie, u, u, None)
        for v in (-1, 3, 0, 10 ** 30, Agreeing(), *NO_INTEGERS):
            self.fails(Wrong, {"place": 1}, desk.tie, 0, v, 1)
            self.fails(Wrong, {"place": 1}, desk.tie, 0, v, "x")
        for number in (-1, MOST + 1, 10 ** 30, Agreeing(), *NO_INTEGERS):
            self.fails(Wrong, {"place": 2}, desk.tie, 0, 1, number)
        self.same((desk.web, desk.log), (Web(3), []))
        for size in (0, 1):
            self.fails(Wrong, {"place": size}, Desk(size).tie, 0, 1, 1)

    def test_barred(self):
        desk = example()
        error = self.fails(Barred, {}, desk.tie, 0, 1, 2)
        self.same(error.row, (3, 3))
        self.truth(is_lots(Web(2), error.lots), True)
        self.assertLess(plain_excess(Web(2, [(0, 1, 2)]), error.row, error.lots), 0)
        told = every(Web(2, [(0, 1, 2)]), desk.wants)
        self.same(("barred", error.row, error.lots), told)
        self.stays(desk, desk.tie, 0, 1, 2)
        self.same(desk.web, Web(2, [(0, 1, 3)]))


class Promises(DeskCase):
    def test_entries(self):
        desk = example()
        self.same(desk.log[1:], [("promise", 0, Want(0, 3)), ("promise", 1, Want(0, 3))])
        self.same(desk.wants, (Want(0, 3), Want(0, 3)))
        wide, want = Desk(5), Want.stepped(1, MOST)
        self.assertIsNone(wide.promise(4, want))
        self.same(wide.wants, (Want(0),) * 4 + (want,))
        self.same(wide.log, [("promise", 4, want)])

    def test_wrong(self):
        desk = Desk(2)
        for place in (-1, 2, 10 ** 30, Agreeing(), *NO_INTEGERS):
            self.fails(Wrong, {"place": 0}, desk.promise, place, Want(0))
            self.fails(Wrong, {"place": 0}, desk.promise, place, None)
        beyond = (Want(1) + MOST, Want(-1) - MOST, Want(MOST) + MOST, Want.between(-MOST, MOST) + 1, Want(0, MOST) - 2 * MOST)
        for want in (*beyond, 0, 1, Agreeing(), [0], Want(), *[thing for thing in NO_INTEGERS if not same(thing, Want(1))]):
            self.fails(Wrong, {"place": 1}, desk.promise, 0, want)
        self.same((desk.wants, desk.log), ((Want(0), Want(0)), []))
        self.fails(Wrong, {"place": 0}, Desk(0).promise, 0, Want(0))

    def test_bounds(self):
        desk = Desk(1)
        # There is no even row: nothing is barred.
        self.assertIsNone(desk.promise(0, Want(MOST - 1)))
        self.assertIsNone(desk.promise(0, Want(MOST) - 1))
        self.assertIsNone(desk.promise(0, Want(1 - MOST)))
        self.same(every(desk.web, desk.wants), ("none",))
        self.fails(Barred, {"row": (MOST,)}, desk.promise, 0, Want(MOST))
        self.fails(Barred, {"row": (-MOST,)}, desk.promise, 0, Want(-MOST))

    def test_promises_of_many_integers(self):
        desk = Desk(2)
        desk.tie(0, 1, MOST)
        desk.promise(0, Want.stepped(1, MOST))
        self.fails(Barred, {}, desk.promise, 1, Want.stepped(1, MOST))
        desk.promise(1, Want.stepped(0, MOST))
        self.same(every(desk.web, desk.wants), ("none",))


class Settling(DeskCase):
    def test_entries(self):
        desk = Desk(2)
        desk.tie(0, 1, 5)
        desk.promise(0, Want(3))
        desk.promise(1, Want(3))
        self.assertIsNone(desk.settle(1, 0, 3))
        self.same(desk.log[3], ("settle", 1, 0, 3))
        self.same((desk.web, desk.wants), (Web(2), (Want(0), Want(0))))
        desk.undo()
        self.fails(Barred, {}, desk.settle, 0, 1, 2)
        self.same((desk.web, desk.wants), (Web(2, [(0, 1, 5)]), (Want(3), Want(3))))

    def test_as_settled_tells(self):
        rng = seeded(580)
        done = 0
        for _ in range(60):
            desk = Desk(4)
            for u in range(4):
                for v in range(u):
                    desk.tie(u, v, rng.randint(1, 3))
            for place in range(4):
                said(desk.promise, place, Want(rng.randint(1, 3), rng.randint(1, 3)))
            u, v = rng.sample(range(4), 2)
            number = rng.randint(0, min(desk.web[u, v], desk.wants[u].low, desk.wants[v].low))
            web, wants = settled(desk.web, desk.wants, u, v, number)
            before = (desk.web, desk.wants)
            told = said(desk.settle, u, v, number)
            done += told == "done"
            self.same(told, "barred" if every(web, wants)[0] == "barred" else "done")
            self.same((desk.web, desk.wants), (web, wants) if told == "done" else before)
        self.assertGreater(done, 5)

    def test_wrong(self):
        desk = Desk(3)
        desk.tie(0, 1, 5)
        desk.tie(1, 2, 5)
        # There are no even rows, so that nothing is barred.
        desk.promise(1, Want(3))
        desk.promise(0, Want(4))
        for u in (-1, 3, Agreeing(), *NO_INTEGERS):
            self.fails(Wrong, {"place": 0}, desk.settle, u, 0, 0)
        for v in (-1, 3, 1, Agreeing(), *NO_INTEGERS):
            self.fails(Wrong, {"place": 1}, desk.settle, 1, v, None)
        for number in (-1, 4, MOST, 10 ** 30, Agreeing(), *NO_INTEGERS):
            self.fails(Wrong, {"place": 2}, desk.settle, 0, 1, number)

    def test_the_least_of_three_numbers(self):
        # The sum of the two wants is odd: there is no even row, and nothing is barred.
        for ties, one, other, least in ((5, Want(3, 5), Want(4), 3), (9, Want(5), Want(4, 6), 4), (2, Want(3), Want(4), 2),
                                        (0, Want(3), Want(4), 0), (9, Want(1), Want(0, 4), 0), (MOST, Want(MOST - 1), Want(8), 8)):
            for u, v in ((0, 1), (1, 0)):
                desk = Desk(2)
                desk.tie(0, 1, ties)
                desk.promise(u, one)
                desk.promise(v, other)
                for a, b in ((0, 1), (1, 0)):
                    self.fails(Wrong, {"place": 2}, desk.settle, a, b, least + 1)
                    self.assertIsNone(desk.settle(a, b, least))
                    self.same((desk.web, desk.wants[u], desk.wants[v]), (Web(2), one - least, other - least))
                    desk.undo()

    def test_numbers_below_zero(self):
        desk = Desk(2)
        desk.tie(0, 1, 4)
        desk.promise(0, Want(-1))
        for number in (-1, 0, 1):
            self.fails(Wrong, {"place": 2}, desk.settle, 0, 1, number)
            self.fails(Wrong, {"place": 2}, desk.settle, 1, 0, number)


class Histories(DeskCase):
    def test_undo_and_redo(self):
        desk = example()
        held = [(Web(2, [(0, 1, 3)]), (Want(0, 3), Want(0, 3))), (Web(2, [(0, 1, 3)]), (Want(0, 3), Want(0))),
                (Web(2, [(0, 1, 3)]), (Want(0), Want(0))), (Web(2), (Want(0), Want(0)))]
        entries = desk.log
        for at, now in enumerate(held):
            self.same((desk.web, desk.wants, desk.log, len(desk)), (*now, entries[:3 - at], 3 - at))
            if at < 3:
                self.assertIsNone(desk.undo())
        self.fails(Nothing, {}, desk.undo)
        for at, now in reversed(list(enumerate(held[:3]))):
            self.assertIsNone(desk.redo())
            self.same((desk.web, desk.wants, desk.log), (*now, entries[:3 - at]))
        self.fails(Nothing, {}, desk.redo)
        self.same(desk.log, entries)

    def test_nothing_at_first(self):
        for size in (0, 5):
            desk = Desk(size)
            self.fails(Nothing, {}, desk.undo)
            self.fails(Nothing, {}, desk.redo)

    def test_other_deeds_leave_nothing_to_redo(self):
        for call, arguments in (("tie", (0, 1, 4)), ("promise", (1, Want(0))), ("settle", (0, 1, 0))):
            desk = example()
            desk.undo()
            desk.undo()
            getattr(desk, call)(*arguments)
            self.fails(Nothing, {}, desk.redo)
            desk.undo()
            self.assertIsNone(desk.redo())
            self.fails(Nothing, {}, desk.redo)

    def test_refused_deeds_leave_what_can_be_redone(self):
        desk = example()
        desk.undo()
        for call, arguments in ((desk.tie, (0, 0, 2)), (desk.promise, (1, Want(2))), (desk.promise, (0, Want(2, 3))),
                                (desk.promise, (1, Want())), (desk.settle, (0, 1, 9)), (desk.answer, ((9, 9),)),
                                (desk.answer, (None,)), (desk.execute, ("redo ",)), (desk.tried, (["redo", "x"],))):
            self.stays(desk, call, *arguments)
        self.same(desk.execute("promise 1 2"), "barred")
        desk.redo()
        self.same(len(desk), 3)

    def test_forty_entries(self):
        desk = full()
        self.same((len(desk), desk.web[0, 1]), (40, 39))
        for call, arguments in ((desk.tie, (0, 1, 3)), (desk.promise, (0, Want(0))), (desk.settle, (0, 1, 0))):
            self.fails(TooMany, {"limit": 40}, call, *arguments)
            self.stays(desk, call, *arguments)
        # Wrong comes ahead of it, what is barred behind it.
        self.fails(Wrong, {"place": 1}, desk.tie, 0, 0, 0)
        self.fails(Wrong, {"place": 1}, desk.promise, 0, Want())
        self.fails(Wrong, {"place": 2}, desk.settle, 0, 1, 1)
        self.fails(TooMany, {"limit": 40}, desk.promise, 0, Want(2))
        self.fails(Wrong, {"place": 0}, desk.tie, None, None, None)
        desk.undo()
        self.fails(Barred, {}, desk.promise, 2, Want(2))
        desk.redo()
        self.same(len(desk), 40)
        desk.undo()
        desk.tie(1, 2, 7)
        self.fails(TooMany, {"limit": 40}, desk.tie, 1, 2, 7)
        self.same(len(desk), 40)
        for _ in range(40):
            desk.undo()
        self.fails(Nothing, {}, desk.undo)
        for _ in range(40):
            desk.redo()
        self.same((len(desk), desk.web.ties), (40, ((0, 1, 38), (1, 2, 7))))

    def test_copies_go_on_independently(self):
        desk = example()
        desk.undo()
        copy = desk.copied()
        self.assertIs(type(copy), Desk)
        self.same(self.holds(copy), self.holds(desk))
        desk.tie(0, 1, 8)
        self.fails(Nothing, {}, desk.redo)
        self.same((len(copy), copy.web[0, 1]), (2, 3))
        copy.redo()
        self.same((copy.wants[1], desk.wants[1]), (Want(0, 3), Want(0)))
        copy.undo()
        copy.undo()
        copy.undo()
        self.same((copy.log, desk.log), ([], [("tie", 0, 1, 3), ("promise", 0, Want(0, 3)), ("tie", 0, 1, 8)]))
        desk.undo()
        desk.redo()
        self.same(len(Desk(0).copied()), 0)

    def test_long_histories(self):
        rng = seeded(581)
        counts = {"done": 0, "barred": 0, "nothing": 0, "full": 0}
        for _ in range(12):
            size = rng.randint(1, 5)
            desk, plain = Desk(size), Plain(size)
            for _ in range(70):
                told = self.some_deed(rng, desk, plain)
                counts[told] += 1
                if rng.random() < 0.1:
                    desk, plain = self.gone_on_with_a_copy(rng, desk, plain)
                if rng.random() < 0.15:
                    before = self.holds(desk)
                    self.try_lines(rng, desk)
                    self.same(self.holds(desk), before)
                self.is_like(desk, plain)
        self.assertTrue(all(count > 5 for name, count in counts.items() if name != "full"), counts)

    def some_deed(self, rng, desk, plain):
        size = desk.web.size
        kind = rng.choice(("tie", "tie", "promise", "promise", "settle", "undo", "undo", "redo"))
        if kind in ("undo", "redo"):
            told = getattr(plain, kind)()
            self.same(said(getattr(desk, kind)), told)
            return told
        entry = ("promise", rng.randrange(size), Want(*[rng.randint(-1, 3) for _ in range(rng.randint(1, 3))]))
        if kind != "promise" and size > 1:
            u, v = rng.sample(range(size), 2)
            least = min(desk.web[u, v], desk.wants[u].low, desk.wants[v].low)
            if kind == "tie":
                entry = ("tie", u, v, rng.choice((0, 1, 2, 3, 5, MOST)))
            elif least >= 0:
                entry = ("settle", u, v, rng.randint(0, least))
        told = plain.do(entry)
        self.same(said(getattr(desk, entry[0]), *entry[1:]), told)
        return told

    def gone_on_with_a_copy(self, rng, desk, plain):
        copy, other = desk.copied(), plain.copied()
        for _ in range(4):
            self.some_deed(rng, copy, other)
        self.is_like(copy, other)
        self.is_like(desk, plain)
        return (copy, other) if rng.random() < 0.5 else (desk, plain)

    def try_lines(self, rng, desk):
        lines = ["undo", "redo", "every", "show", "promise 0 0, 2", "promise 0 0", "tie 0 1 4", "settle 0 1 1", "no command",
                 "answer" + " 0" * desk.web.size]
        try:
            desk.tried([rng.choice(lines) for _ in range(5)])
        except ContentError:
            pass

    def test_deeds_are_refused_just_when_a_row_is_barred(self):
        rng = seeded(582)
        refused = 0
        for _ in range(12):
            size = rng.randint(2, 3)
            desk = Desk(size)
            for _ in range(25):
                if rng.random() < 0.5:
                    u, v = rng.sample(range(size), 2)
                    number = rng.randint(0, 3)
                    web, wants = desk.web.changed(u, v, number), desk.wants
                    told = said(desk.tie, u, v, number)
                else:
                    place, want = rng.randrange(size), Want(*[rng.randint(0, 3) for _ in range(rng.randint(1, 2))])
                    web, wants = desk.web, desk.wants[:place] + (want,) + desk.wants[place + 1:]
                    told = said(desk.promise, place, want)
                if multiplied([number + 1 for _, _, number in web.ties]) < 100:
                    self.same(told, "barred" if bars(web, wants) else "done")
                    refused += told == "barred"
        self.assertGreater(refused, 20)


class Answers(DeskCase):
    def test_answers(self):
        desk = example()
        before = self.holds(desk)
        for row in ((3, 3), (0, 0), (1, 1), (2, 2)):
            kept = desk.answer(row)
            self.truth(is_choice(desk.web, row, kept), True)
            self.same(kept, grant(desk.web, row))
        for row in ((4, 4), (1, 0), (-1, -1), (10 ** 60, 10 ** 60), (-10 ** 60, 0)):
            error = self.fails(Barred, {"row": row}, desk.answer, row)
            self.assertLess(plain_excess(desk.web, row, error.lots), 0)
        self.same(self.holds(desk), before)
        self.same(Desk(0).answer(()), Web(0))
        self.same(Desk(1).answer((0,)), Web(1))
        self.same(full().answer((1, 1, 0)), Web(3, [(0, 1, 1)]))

    def test_wrong(self):
        desk = example()
        for row in ((), (3,), (3, 3, 3), [3, 3], (3, True), (False, 3), (3, "3"), (3, None), ((3, 3),), (3, Agreeing()), Agreeing(),
                    "33", {0: 3, 1: 3}, 3, *[thing for thing in NO_INTEGERS if not same(thing, (0, 1))]):
            self.fails(Wrong, {"place": 0}, desk.answer, row)
        self.fails(Wrong, {"place": 0}, Desk(0).answer, (0,))


class Execute(DeskCase):
    def no_command(self, desk, line):
        before = self.holds(desk)
        self.assertIs(self.fails(NoCommand, {}, desk.execute, line).line, line)
        self.same(self.holds(desk), before)

    def test_deeds(self):
        desk, other = Desk(3), Desk(3)
        for line, deed in (("tie 0 1 3", lambda: other.tie(0, 1, 3)), ("tie 2 1 1000000000", lambda: other.tie(2, 1, MOST)),
                           ("promise 0 0..2/2, 3", lambda: other.promise(0, Want(0, 2, 3))), ("undo", other.undo),
                           ("redo", other.redo), ("promise 1 3, 4", lambda: other.promise(1, Want(3, 4))),
                           ("settle 1 0 0", lambda: other.settle(1, 0, 0)), ("undo", other.undo)):
            told = said(deed)
            self.assertIn(told, ("done", "barred"))
            self.same(desk.execute(line), told)
            self.same(self.holds(desk), self.holds(other))
        self.same(desk.execute("promise 2 7"), "barred" if said(other.promise, 2, Want(7)) == "barred" else "done")

    def test_entries_of_lines(self):
        desk = Desk(2)
        for line in ("tie 1 0 4", "promise 0 3", "promise 1 3", "settle 1 0 3"):
            self.same(desk.execute(line), "done")
        self.same(desk.log, [("tie", 1, 0, 4), ("promise", 0, Want(3)), ("promise", 1, Want(3)), ("settle", 1, 0, 3)])

    def test_settle(self):
        desk = Desk(2)
        desk.tie(0, 1, 2)
        desk.promise(0, Want(1))
        desk.promise(1, Want(1))
        self.same(desk.execute("settle 0 1 0"), "barred")
        self.no_command(desk, "settle 0 1 2")
        self.same(desk.execute("settle 1 0 1"), "done")
        self.same(desk.log[-1], ("settle", 1, 0, 1))
        self.same(desk.execute("show"), "web 2\nat 0 0\nat 1 0")
        self.same(desk.execute("settle 0 1 0"), "done")

    def test_questions(self):
        desk = example()
        before = self.holds(desk)
        self.same(desk.execute("every"), "every")
        self.same(desk.execute("show"), "web 2 0-1=3\nat 0 0, 3\nat 1 0, 3")
        self.same(desk.execute("answer 2 2"), "web 2 0-1=2")
        self.same(desk.execute("answer 0 0"), "web 2")
        for line in ("answer 4 4", "answer 1 0", "answer -1 -1", "answer 1000000000 1000000000", "answer -1000000000 0"):
            self.same(desk.execute(line), "barred")
        self.same(self.holds(desk), before)
        lone = Desk(1)
        lone.promise(0, Want(1))
        self.same(lone.execute("every"), "none")
        self.same([Desk(0).execute(line) for line in ("answer", "every", "show")], ["web 0", "every", "web 0"])
        self.same(Desk(1).execute("answer 0"), "web 1")
        self.same(Desk(1).execute("answer 2"), "barred")

    def test_show_and_answer_are_written(self):
        rng = seeded(583)
        for _ in range(10):
            desk = Desk(rng.randint(0, 5))
            for _ in range(12):
                if desk.web.size > 1:
                    u, v = rng.sample(range(desk.web.size), 2)
                    said(desk.tie, u, v, rng.randint(0, 4))
                    said(desk.promise, u, Want(*[rng.randint(0, 3) for _ in range(2)]))
            self.same(desk.execute("show"), write(desk.web, desk.wants))
            row = tuple(rng.randint(0, 2) for _ in desk.wants)
            line = " ".join(["answer", *map(str, row)])
            told = said(lambda: desk.answer(row) and None)
            self.same(desk.execute(line), "barred" if told == "barred" else write_web(desk.answer(row)))

    def test_errors_of_deeds(self):
        desk = Desk(2)
        self.fails(Nothing, {}, desk.execute, "undo")
        self.fails(Nothing, {}, desk.execute, "redo")
        desk = full()
        for line in ("tie 0 1 3", "promise 0 0", "settle 0 1 0", "promise 0 2"):
            self.fails(TooMany, {"limit": 40}, desk.execute, line)
            self.stays(desk, desk.execute, line)
        # What the deeds do not accept is no command, also with 40 entries.
        self.no_command(desk, "tie 0 0 3")
        self.no_command(desk, "promise 0 none")
        self.same(desk.execute("undo"), "done")
        self.same(desk.execute("promise 2 2"), "barred")
        self.same(desk.execute("redo"), "done")
        self.same(desk.execute("answer 0 0 0"), "web 3")

    def test_no_commands(self):
        desk = example()
        desk.undo()
        for line in ("", " ", "\n", "tie", "tie 0", "tie 0 1", "tie 0 1 3 4", "tie  0 1 3", "tie 0  1 3", "tie 0 1 3 ", " tie 0 1 3",
                     "tie 0 1 3\n", "Tie 0 1 3", "tie 0 1 03", "tie 00 1 3", "tie 0 1 -0", "tie 0 1 -1", "tie 0 1 1000000001",
                     "tie 0 2 3", "tie 2 0 3", "tie 0 0 3", "tie -1 0 3", "tie 0 1 x", "tie 0 1 3.0", "tie 0,1,3", "tie 0-1=3",
                     "settle 0 1", "settle 0 1 4", "settle 0 1 -1", "settle 0 0 0", "settle 0 1 0 0", "settle 0 1 none",
                     "promise", "promise 0", "promise 0 ", "promise 0 none", "promise 2 0", "promise 0 0,3", "promise 0 3, 0",
                     "promise 0  0", "promise 0 0 ", "promise 0 0, 2", "promise 0 1000000001", "promise 0 -0", "promise x 0",
                     "promise 0 0\n", "promise 00 0", "promise -1 0", "promise  0 0", "undo ", " undo", "undo 1", "redo ", "redo\n",
                     "undo undo", "every ", "every 0", "show ", "show\n", "show 0", "answer", "answer 0", "answer 0 0 0", "answer 0 0 ",
                     "answer  0 0", "answer 0  0", "answer 0 x", "answer 00 0", "answer 0 -0", "answer 0 1000000001",
                     "answer 0 -1000000001", "answer (0, 0)", "answer 0, 0", "barred", "done", "web 2", "at 0 0", "log", "copied",
                     "tie 0 1 " + "9" * 5000, "answer 0 " + "9" * 5000, "promise 0 " + "9" * 5000, "tie 0 1 3\ntie 0 1 3"):
            self.no_command(desk, line)
        for line in NO_INTEGERS + (0, 1, Agreeing(), ["undo"], ("undo",), b"undo", ["tie", 0, 1, 3], 10 ** 60):
            self.no_command(desk, line)
        for line in ("tie 0 1 0", "promise 0 0", "answer 0", "settle 0 0 0"):
            self.no_command(Desk(0), line)
        self.no_command(Desk(0), "answer ")

    def test_long_lines(self):
        desk = Desk(5)
        for line in ("x" * 10 ** 6, "answer" + " 0" * 10 ** 5, "tie " * 10 ** 5, "promise 0 " + ", ".join(["0"] * 10 ** 5)):
            self.no_command(desk, line)

    def test_bounds(self):
        desk = Desk(2)
        self.same(desk.execute(f"tie 0 1 {MOST}"), "done")
        self.same(desk.execute(f"promise 0 1..{MOST - 1}/2"), "done")
        self.same(desk.execute(f"promise 1 -{MOST}..{MOST}/2"), "done")
        self.same(desk.execute("every"), "none")
        self.same(desk.execute(f"answer {MOST} {MOST}"), f"web 2 0-1={MOST}")


class Tried(DeskCase):
    def test_lines(self):
        desk = example()
        desk.undo()
        before = self.holds(desk)
        self.same(desk.tried([]), [])
        self.same(desk.tried(["redo", "show", "undo", "undo", "undo", "show", "tie 0 1 7", "answer 7 7", "promise 0 8", "every"]),
                  ["done", "web 2 0-1=3\nat 0 0, 3\nat 1 0, 3", "done", "done", "done", "web 2\nat 0 0\nat 1 0", "done",
                   "web 2 0-1=7", "barred", "every"])
        self.same(self.holds(desk), before)

    def test_as_execute_on_a_copy(self):
        lines = ["tie 0 1 4", "promise 0 0..4/2", "promise 1 0", "answer 4 4", "settle 0 1 0", "undo", "show"]
        desk, copy = Desk(2), Desk(2)
        self.same(desk.tried(lines), [copy.execute(line) for line in lines])
        self.same((desk.log, desk.web), ([], Web(2)))

    def test_errors_are_passed_on(self):
        desk = example()
        desk.undo()
        before = self.holds(desk)
        strange = ["no", "command"]
        self.assertIs(self.fails(NoCommand, {}, desk.tried, ["redo", "tie 0 1 9", strange, "undo"]).line, strange)
        self.fails(NoCommand, {"line": "tie 0 0 1"}, desk.tried, ["tie 0 1 9", "tie 0 0 1"])
        self.fails(Nothing, {}, desk.tried, ["undo", "undo", "undo"])
        self.fails(Nothing, {}, desk.tried, ["tie 0 1 9", "redo"])
        self.fails(TooMany, {"limit": 40}, desk.tried, ["tie 0 1 5"] * 39)
        self.same(self.holds(desk), before)
        self.same(len(desk.tried(["tie 0 1 5"] * 38)), 38)
        for line in NO_INTEGERS:
            self.assertIs(self.fails(NoCommand, {}, desk.tried, ["undo", line]).line, line)
        self.same(self.holds(desk), before)
        desk.redo()
        self.same(len(desk), 3)


class Objects(Case):
    def test_a_draft_is_no_want(self):
        self.fails(Wrong, {"place": 1}, Desk(2).promise, 0, Draft(Web(2)))

    def test_a_desk_keeps_its_own_state(self):
        one, other = Desk(2), Desk(2)
        one.tie(0, 1, 1)
        self.same((other.web, other.log), (Web(2), []))


if __name__ == "__main__":
    unittest.main()
