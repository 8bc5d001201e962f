"""[3], [4], [101]: notation."""

import inspect
import unittest

from contentties import notation as notation_file
from contentties.errors import NoText
from contentties.notation import read, read_want, read_web, write, write_web
from contentties.shapes import complete, line
from contentties.wants import Want
from contentties.webs import Web
from tests.helpers import NO_INTEGERS, Agreeing, Case, random_wants, random_web, seeded, want_of

MOST = 10 ** 9
THREE = Web(2, [(0, 1, 3)])
TEXT = "web 2 0-1=3\nat 0 0, 3\nat 1 0..2/2"
# Numbers that are not written as they must be, or are beyond all bounds.
NO_NUMBERS = ("", "00", "01", "-0", "+1", "--1", "1 ", " 1", "1-", "-", "a", "1a", "0x1", "1_0", "1.0", "1\n", "\n1", "0" * 11,
              "1000000001", "10000000000", "9" * 11, "9" * 5000, "-" + "9" * 5000, "1" + "0" * 100, "-1000000001", "- 1", "1,",
              ",1", "None", "True")
SIGNS = "09-=, ./\nabnweto~"


def words_of(want):
    """The text of a want, by its runs."""
    runs = sorted(want.evens + want.odds)
    return ", ".join(str(low) if low == high else f"{low}..{high}/2" for low, high in runs) or "none"


def plain_web(web):
    text = f"web {web.size}"
    for u in range(web.size):
        for v in range(u + 1, web.size):
            if web[u, v]:
                text += f" {u}-{v}={web[u, v]}"
    return text


def plain_text(web, wants):
    return "\n".join([plain_web(web)] + [f"at {place} {words_of(want)}" for place, want in enumerate(wants)])


def some_wants(rng, web):
    """Wants with few and many integers, far and near ones, runs and blocks."""
    def want():
        kind = rng.randrange(5)
        if kind == 0:
            return Want(rng.randint(-MOST, MOST))
        if kind == 1:
            low = rng.randint(-MOST, MOST - 50)
            return Want.between(low, low + rng.randint(0, 50))
        if kind == 2:
            return want_of(rng.sample(range(-40, 40), rng.randint(1, 60)))
        if kind == 3:
            return Want.stepped(-MOST, MOST) | Want(rng.randint(-9, 9))
        return random_wants(rng, Web(1))[0]
    return tuple(want() for _ in range(web.size))


class Interface(Case):
    def test_names_and_arguments(self):
        for name, arguments in {"write_web": ["web"], "write": ["web", "wants"], "read_want": ["text"],
                                "read_web": ["text"], "read": ["text"]}.items():
            call = getattr(notation_file, name)
            self.assertEqual(list(inspect.signature(call).parameters), arguments)
            self.assertEqual(call.__module__, "contentties.notation")

    def test_example(self):
        self.same(write(THREE, (Want(0, 3), Want(0, 2))), TEXT)
        self.same(read(TEXT), (THREE, (Want(0, 3), Want(0, 2))))


class Writing(Case):
    def test_webs(self):
        self.same(write_web(Web(0)), "web 0")
        self.same(write_web(Web(60)), "web 60")
        self.same(write_web(Web(4, [(3, 1, 2), (0, 1, MOST), (2, 3, 10)])), f"web 4 0-1={MOST} 1-3=2 2-3=10")
        rng = seeded(570)
        for size in (1, 2, 5, 11, 60):
            web = random_web(rng, size, rng.choice((9, MOST)), 0.5)
            self.same(write_web(web), plain_web(web))

    def test_webs_with_wants(self):
        self.same(write(Web(0), ()), "web 0")
        self.same(write(Web(1), (Want(-3, 0),)), "web 1\nat 0 -3, 0")
        self.same(write(Web(1), (Want(),)), "web 1\nat 0 none")
        self.same(write(Web(2), (Want.between(-MOST, MOST), Want(7) + MOST)),
                  f"web 2\nat 0 -{MOST}..{MOST}/2, -{MOST - 1}..{MOST - 1}/2\nat 1 {MOST + 7}")
        rng = seeded(571)
        for size in (1, 3, 12, 60):
            web = random_web(rng, size, 9, 0.5)
            wants = some_wants(rng, web)
            self.same(write(web, wants), plain_text(web, wants))


class ReadWant(Case):
    def no_text(self, text):
        self.fails(NoText, {"line": 1}, read_want, text)

    def test_back_and_forth(self):
        rng = seeded(572)
        for want in some_wants(rng, Web(60)) + (Want(), Want(0), Want(-1), Want(*range(0, 117, 3)), Want.between(3, 4)):
            found = read_want(str(want))
            self.assertIs(type(found), Want)
            self.same(found, want)
            self.same((str(found), found.low, found.high, found.many, found.corners),
                      (str(want), want.low, want.high, want.many, want.corners))

    def test_texts(self):
        self.same(read_want("none"), Want())
        self.same(read_want("0, 3..5/2, 4"), Want(0, 3, 4, 5))
        self.same(read_want(f"-{MOST}..{MOST}/2"), Want.stepped(-MOST, MOST))
        self.same(read_want(f"-{MOST}, {MOST}"), Want(-MOST, MOST))
        self.same(read_want("-5..-1/2, -4..0/2"), Want.between(-5, 0))

    def test_texts_of_other_forms(self):
        for text in ("", " ", "none ", " none", "None", "none, 1", "1, none", "0,3", "0,  3", "0 , 3", "0, 3,", "0, 3, ", ", 3",
                     "3, 0", "0, 0", "0, 2", "0..2/2, 4", "0, 2..4/2", "0..4/2, 2", "0..4/2, 2..6/2", "0..0/2", "2..0/2",
                     "0..3/2", "0..2/1", "0..2/3", "0..2", "0.2/2", "0...2/2", "..2/2", "0../2", "0..2/2/2", "0..2/22", "0..2 /2",
                     "0.. 2/2", "0-2", "3..5/2, 0, 4", "0, 4, 3..5/2", "{0}", "0\n", "\n", "0, 3\n4", "0..2/2..4/2",
                     "1..5/2, 1..5/2", "0..4/2, 1..5/2, 3", "0, 1, 2", "1, 2, 3", "-2, -4", "0, -1", "~", "-0..2/2", "-2..-0/2"):
            self.no_text(text)

    def test_numbers(self):
        for word in NO_NUMBERS:
            self.no_text(word)
            self.no_text(f"{word}..4/2")
            self.no_text(f"-4..{word}/2")
            self.no_text(f"-7, {word}")

    def test_wrong_values(self):
        for thing in NO_INTEGERS + (0, 1, 3, Agreeing(), ["0"], ("none",), b"none", b"0"):
            if not isinstance(thing, str) or thing not in ("0", "1"):
                self.no_text(thing)
        self.same([read_want("1"), read_want("0")], [Want(1), Want(0)])

    def test_long_texts(self):
        many = list(range(0, 3 * 20000, 3))
        self.same(read_want(", ".join(map(str, many))).many, 20000)
        self.no_text(", ".join(map(str, many + [5])))
        self.no_text("x" * 10 ** 6)
        self.no_text(", " * 10 ** 5)
        self.no_text("9" * 10 ** 6)


class ReadWeb(Case):
    def no_text(self, text):
        self.fails(NoText, {"line": 1}, read_web, text)

    def test_back_and_forth(self):
        rng = seeded(573)
        webs = [random_web(rng, size, most, 0.3) for size in (0, 1, 2, 5, 12, 60) for most in (0, 3, MOST)]
        for web in [*webs, complete(60, MOST), Web(60), line(60, 10)]:
            found = read_web(write_web(web))
            self.assertIs(type(found), Web)
            self.same((found.size, found.ties), (web.size, web.ties))

    def test_texts_of_other_forms(self):
        for text in ("", "web", "web ", "web  2", " web 2", "web 2 ", "Web 2", "web2", "2", "web -1", "web 61", "web 60 0-60=1",
                     "web 2 0-1=0", "web 2 1-0=3", "web 2 0-0=3", "web 2 0-2=3", "web 2 0-1", "web 2 0-1=", "web 2 0=1-3",
                     "web 2 0-1=3 0-1=3", "web 2 0-1=-3", "web 2 -0-1=3", "web 2 0--1=3", "web 2 -1-1=3", "web 2  0-1=3",
                     "web 2 0-1=3  ", "web 2 0 -1=3", "web 2 0-1 =3", "web 2 0-1= 3", "web 2 0-1=3=4", "web 2 0-1-2=3",
                     "web 3 0-2=1 0-1=1", "web 3 1-2=1 0-1=1", "web 3 0-1=1 0-1=2 1-2=1", "web 2\n", "\nweb 2", "web\n2",
                     "web 2 0-1=3\nat 0 0", "web 2,0-1=3", "web 2 0-1=3,", "web 1 0-1=1", "web 0 0-1=1", "at 0 0", "none"):
            self.no_text(text)

    def test_numbers(self):
        for word in NO_NUMBERS:
            self.no_text(f"web {word}")
            self.no_text(f"web 2 0-1={word}")
            self.no_text(f"web 9 {word}-8=1")
            self.no_text(f"web 9 0-{word}=1")
        self.no_text(f"web 2 0-1={MOST + 1}")
        self.same(read_web(f"web 2 0-1={MOST}")[0, 1], MOST)

    def test_wrong_values(self):
        for thing in NO_INTEGERS + (0, 1, Agreeing(), ["web 2"], ("web 2",), b"web 2"):
            self.no_text(thing)
        self.no_text("web 3 " * 10 ** 5)
        self.no_text("web 60" + " 0-1=1" * 10 ** 5)


class Read(Case):
    def no_text(self, line, text):
        self.fails(NoText, {"line": line}, read, text)

    def test_back_and_forth(self):
        rng = seeded(574)
        for size in (0, 1, 2, 3, 7, 60):
            for _ in range(4):
                web = random_web(rng, size, rng.choice((3, MOST)), 0.4)
                wants = some_wants(rng, web)
                found = read(write(web, wants))
                self.same((type(found), type(found[1])), (tuple, tuple))
                self.same(found, (web, wants))

    def test_lines(self):
        good = TEXT.split("\n")
        self.no_text(3, "\n".join(good[:2]))
        self.no_text(2, good[0])
        self.no_text(2, "web 2\nat 0")
        self.no_text(4, TEXT + "\n")
        self.no_text(4, TEXT + "\nat 2 0")
        self.no_text(4, TEXT + "\n\n\n")
        self.no_text(3, "\n".join([good[0], good[1], ""]))
        self.no_text(2, good[0] + "\n")
        self.no_text(2, "\n".join([good[0], good[2], good[1]]))
        self.no_text(2, "\n".join([good[0], good[2]]))
        self.no_text(3, "\n".join([good[0], good[1], good[1]]))
        self.no_text(1, "\n".join(good[1:]))
        self.no_text(1, "\n" + TEXT)
        self.no_text(1, "")
        self.no_text(1, "\n")
        self.no_text(1, " ")
        self.no_text(2, "web 0\n")
        self.no_text(2, "web 0\nat 0 0")
        self.same(read("web 0"), (Web(0), ()))
        self.no_text(2, "web 60")
        # The first line that cannot stand, though others behind it cannot either.
        self.no_text(2, "web 2\nat 1 0\nat 3 x\n")
        self.no_text(1, "web 2 \nat 1 0\n")

    def test_lines_of_wants(self):
        for text in ("at 0 none", "at 0 ", "at 0", "at", "", "at 00 1", "at 0  1", "at  0 1", " at 0 1", "at 0 1 ", "At 0 1",
                     "at 1 1", "at -0 1", "0 1", "1", "at 0 0, 2", "at 0 2, 0", "at 0 1000000001", "at 0 -0", "at 0 1\r", "at 0, 1",
                     "at 0 at 0 1", "web 1"):
            self.no_text(2, "web 1\n" + text)
            self.no_text(2, f"web 2\n{text}\nat 1 5")
        for word in NO_NUMBERS:
            if "\n" not in word:
                self.no_text(2, f"web 1\nat 0 {word}")
                self.no_text(2, f"web 1\nat {word} 1")
        self.no_text(3, "web 1\nat 0 1\n")
        self.no_text(2, "web 1\nat 0 \n1")

    def test_wrong_values(self):
        for thing in NO_INTEGERS + (0, 1, Agreeing(), [TEXT], (TEXT,), TEXT.encode(), TEXT.split("\n"), THREE):
            self.no_text(1, thing)

    def test_long_texts(self):
        self.no_text(1, "x" * 10 ** 6)
        self.no_text(2, "web 60\n" + "at 0 1 " * 10 ** 5)
        self.no_text(4, TEXT + "\n" * 10 ** 5)
        self.no_text(1, "\n" * 10 ** 5)
        self.no_text(3, "web 3\nat 0 1\nat 1 " + "9" * 10 ** 5 + "\nat 2 1")

    def test_each_sign_changed(self):
        """What is read, after any change of a sign, is written as the changed text; else the first wrong line is told."""
        web, wants = Web(3, [(0, 1, 12), (1, 2, 3)]), (Want(0, 3), Want.between(-2, 1), Want(10))
        text = write(web, wants)
        changed = [text[:at] + sign + text[at + 1:] for at in range(len(text)) for sign in SIGNS]
        changed += [text[:at] + text[at + 1:] for at in range(len(text))]
        changed += [text[:at] + sign + text[at:] for at in range(len(text) + 1) for sign in SIGNS]
        read_well = 0
        for other in changed:
            try:
                found = read(other)
            except NoText as error:
                self.truth(1 <= error.line <= len(other.split("\n")) + 1, True)
                self.same(error.line, self.first_wrong(other))
            else:
                read_well += 1
                self.same(plain_text(*found), other)
        self.assertGreater(read_well, 20)

    def first_wrong(self, text):
        """The least number of a line with which the lines ahead do not begin any text, found by filling them up."""
        lines = text.split("\n")
        for many in range(1, len(lines) + 1):
            ahead = lines[:many]
            size = ahead[0][4:].split(" ")[0]
            places = int(size) if size.isdigit() else 0
            filled = "\n".join(ahead + [f"at {place} 0" for place in range(many - 1, places)])
            try:
                read(filled)
            except NoText:
                return many
        return len(lines) + 1


if __name__ == "__main__":
    unittest.main()
