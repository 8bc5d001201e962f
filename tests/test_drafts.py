"""[3], [4], [31]: Draft."""

import inspect
import unittest

from contentties.drafts import Draft
from contentties.errors import TooFew, TooMany, Unequal
from contentties.webs import Web
from tests.helpers import Case, pairs_of, random_web, seeded

MOST = 10 ** 9


class Drafts(Case):
    def test_example(self):
        web = Web(3, [(0, 1, 2), (2, 1, 1)])
        draft = Draft(web)
        draft[0, 2] = 5
        draft -= web
        self.same(draft.held.ties, ((0, 2, 5),))
        self.same(web.ties, ((0, 1, 2), (1, 2, 1)))

    def test_interface(self):
        self.assertEqual(list(inspect.signature(Draft).parameters), ["web"])
        self.assertEqual(list(inspect.signature(Draft.become).parameters), ["self", "web"])
        for name in ("__getitem__", "__setitem__", "__iadd__", "__isub__", "become"):
            self.assertIn(name, vars(Draft))
        self.assertIn("held", vars(Draft(web=Web(2))))

    def test_is_no_web(self):
        web = Web(2, [(0, 1, 1)])
        self.assertFalse(isinstance(Draft(web), Web))
        self.assertFalse(issubclass(Draft, Web))
        self.truth(web == Draft(web), False)
        self.truth(Draft(web) == web, False)

    def test_holds_a_web(self):
        for web in (Web(0), Web(1), Web(60), Web(2, [(0, 1, MOST)])):
            self.assertIs(type(Draft(web).held), Web)
            self.assertEqual(Draft(web).held, web)

    def test_items(self):
        draft = Draft(Web(3))
        draft[2, 1] = MOST
        draft[0, 1] = 4
        self.same((draft[1, 2], draft[2, 1], draft[0, 1], draft[1, 0], draft[0, 2]), (MOST, MOST, 4, 4, 0))
        draft[1, 0] = 0
        self.same(draft.held.ties, ((1, 2, MOST),))

    def test_plus_and_minus_in_place(self):
        draft = same_one = Draft(Web(3, [(0, 1, 2)]))
        draft += Web(3, [(1, 2, 3), (1, 0, 1)])
        self.assertIs(draft, same_one)
        self.assertIs(type(draft), Draft)
        self.same(draft.held.ties, ((0, 1, 3), (1, 2, 3)))
        draft -= Web(3, [(1, 2, 3)])
        self.assertIs(draft, same_one)
        self.same(draft.held.ties, ((0, 1, 3),))

    def test_a_web_that_was_held_stays(self):
        web = Web(2, [(0, 1, 2)])
        one, other = Draft(web), Draft(web)
        held = one.held
        one[0, 1] = 7
        one += web
        self.same((held.ties, web.ties, other[0, 1], one[0, 1]), (((0, 1, 2),), ((0, 1, 2),), 2, 9))

    def test_errors_leave_the_draft_as_it_was(self):
        draft = Draft(Web(3, [(0, 1, MOST), (1, 2, 1)]))
        before = draft.held.ties

        def plus(web):
            nonlocal draft
            draft += web

        def minus(web):
            nonlocal draft
            draft -= web

        for call, web, kind, fields in (
            (plus, Web(2, [(0, 1, 1)]), Unequal, {"one": 3, "other": 2}),
            (minus, Web(4, [(0, 1, 1)]), Unequal, {"one": 3, "other": 4}),
            (plus, Web(3, [(0, 2, 1), (0, 1, 1)]), TooMany, {"limit": MOST}),
            (minus, Web(3, [(0, 1, 1), (2, 1, 2), (0, 2, 1)]), TooFew, {"pair": (0, 2)}),
            (minus, Web(3, [(2, 1, 2)]), TooFew, {"pair": (1, 2)}),
            (draft.become, Web(2), Unequal, {"one": 3, "other": 2}),
            (draft.become, Web(0), Unequal, {"one": 3, "other": 0}),
        ):
            self.fails(kind, fields, call, web)
            self.assertIs(type(draft), Draft)
            self.same(draft.held.ties, before)

    def test_become(self):
        draft = Draft(Web(3, [(0, 1, 1)]))
        web = Web(3, [(0, 2, 4)])
        self.assertIs(draft.become(web), None)
        self.assertEqual(draft.held, web)
        self.same((draft[0, 1], draft[2, 0]), (0, 4))
        self.assertIs(draft.become(web=Web(3)), None)
        self.assertEqual(draft.held, Web(3))
        draft[0, 1] = 1
        self.same((draft[0, 1], web.ties), (1, ((0, 2, 4),)))

    def test_against_a_plain_table(self):
        rng = seeded(34)
        for size in (2, 3, 6):
            draft = Draft(Web(size))
            table = {pair: 0 for pair in pairs_of(size)}
            for _ in range(200):
                web = random_web(rng, size, 5, empty=0.5)
                u, v = rng.sample(range(size), 2)
                deed = rng.randint(0, 3)
                if deed == 0:
                    draft[u, v] = table[min(u, v), max(u, v)] = rng.randint(0, 9)
                elif deed == 1:
                    draft += web
                    table = {pair: table[pair] + web[pair] for pair in table}
                elif deed == 2 and web.within(draft.held):
                    draft -= web
                    table = {pair: table[pair] - web[pair] for pair in table}
                elif deed == 3:
                    draft.become(web)
                    table = {pair: web[pair] for pair in table}
                self.same({pair: draft[pair] for pair in table} == table, True)
                self.same(draft.held.ties, tuple((u, v, n) for (u, v), n in sorted(table.items()) if n))


if __name__ == "__main__":
    unittest.main()
