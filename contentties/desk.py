"""Desks: webs and wants that are changed deed by deed, so that what is promised can always be kept."""

from contentties.errors import Barred, NoCommand, Nothing, TooMany, Wrong
from contentties.grants import grant
from contentties.kinds import MOST_SEARCHED, is_from_to, is_number, is_place, put_at
from contentties.lots import is_row
from contentties.notation import number_in, want_in, write, write_web
from contentties.spares import settled
from contentties.wants import Want
from contentties.webs import MOST_TIES, Web
from contentties.worst import every

MOST_ENTRIES = 40
NUMBERS_BEHIND = {"tie": 3, "settle": 3, "undo": 0, "redo": 0, "every": 0, "show": 0}


class Desk:
    """A web and wants, with the deeds that led to them, and those that were taken back."""

    def __init__(self, size):
        if not is_from_to(size, 0, MOST_SEARCHED):
            raise Wrong(0)
        self.web = Web(size)
        self.wants = (Want(0),) * size
        # Tuples of an entry with the web and the wants ahead of the deed, in the second list behind it.
        self._past = []
        self._ahead = []

    def __len__(self):
        return len(self._past)

    @property
    def log(self):
        """The list of the entries of the deeds done."""
        return [entry for entry, _, _ in self._past]

    def tie(self, u, v, number):
        """Set the bundle of two places to a number of ties."""
        self._need_pair(u, v)
        if not is_from_to(number, 0, MOST_TIES):
            raise Wrong(2)
        self._enter(("tie", u, v, number), self.web.changed(u, v, number), self.wants)

    def promise(self, place, want):
        """Put a want at a place."""
        if not is_place(place, self.web.size):
            raise Wrong(0)
        if not _is_promise(want):
            raise Wrong(1)
        self._enter(("promise", place, want), self.web, put_at(self.wants, place, want))

    def settle(self, u, v, number):
        """Settle that a number of the ties of two places is kept, and no other one of them."""
        self._need_pair(u, v)
        if not is_from_to(number, 0, min(self.web[u, v], self.wants[u].low, self.wants[v].low)):
            raise Wrong(2)
        web, wants = settled(self.web, self.wants, u, v, number)
        self._enter(("settle", u, v, number), web, wants)

    def undo(self):
        """Take the last deed back."""
        if not self._past:
            raise Nothing()
        entry, web, wants = self._past.pop()
        self._ahead.append((entry, self.web, self.wants))
        self._become(web, wants)

    def redo(self):
        """Do the deed again that was taken back last."""
        if not self._ahead:
            raise Nothing()
        entry, web, wants = self._ahead.pop()
        self._past.append((entry, self.web, self.wants))
        self._become(web, wants)

    def answer(self, row):
        """Return a choice of the web with a row."""
        if not is_row(self.web, row):
            raise Wrong(0)
        return grant(self.web, row)

    def copied(self):
        """Return a Desk with the same web, wants, log and deeds to redo."""
        other = Desk(self.web.size)
        other._past = list(self._past)
        other._ahead = list(self._ahead)
        other._become(self.web, self.wants)
        return other

    def execute(self, line):
        """Do the deed, or tell the answer, that a line asks for, and return what is said to it."""
        command = _command_in(line) if isinstance(line, str) else None
        if command is None:
            raise NoCommand(line)
        name, given = command
        try:
            return self._obeyed(name, given)
        except Barred:
            return "barred"
        except Wrong:
            raise NoCommand(line) from None

    def tried(self, lines):
        """Return the list of what execute returns for some lines, and leave the desk as it is."""
        other = self.copied()
        return [other.execute(line) for line in lines]

    def _obeyed(self, name, given):
        """Do what a command says, and return what is said to it."""
        if name == "every":
            return every(self.web, self.wants)[0]
        if name == "show":
            return write(self.web, self.wants)
        if name == "answer":
            return write_web(self.answer(given))
        self._do(name, given)
        return "done"

    def _do(self, name, given):
        """Do the deed that a command asks for."""
        if name == "undo":
            self.undo()
        elif name == "redo":
            self.redo()
        elif name == "promise":
            place, want = given
            self.promise(place, want)
        elif name == "tie":
            u, v, number = given
            self.tie(u, v, number)
        else:
            u, v, number = given
            self.settle(u, v, number)

    def _need_pair(self, u, v):
        """Raise Wrong for the first one of two arguments that is not a place, or not another one."""
        if not is_place(u, self.web.size):
            raise Wrong(0)
        if not is_place(v, self.web.size) or v == u:
            raise Wrong(1)

    def _enter(self, entry, web, wants):
        """Do a deed that leads to a web and wants, if what is promised can be kept with them."""
        if len(self._past) >= MOST_ENTRIES:
            raise TooMany(MOST_ENTRIES)
        told = every(web, wants)
        if told[0] == "barred":
            raise Barred(told[1], told[2])
        self._past.append((entry, self.web, self.wants))
        self._ahead = []
        self._become(web, wants)

    def _become(self, web, wants):
        """Make a web and wants the present ones."""
        self.web = web
        self.wants = wants


def _is_promise(thing):
    """Return whether any value is a want that is not empty, and whose integers are numbers."""
    return isinstance(thing, Want) and bool(thing) and is_number(thing.low) and is_number(thing.high)


def _command_in(line):
    """Return the name and the arguments of the command that is written so, None if its name or their number is wrong.

    A number or a want that is not written as it must be is None there, which no deed accepts.
    """
    words = line.split(" ")
    name = words[0]
    if name == "promise" and len(words) > 2:
        return name, (number_in(words[1]), want_in(" ".join(words[2:])))
    if name == "answer" or NUMBERS_BEHIND.get(name) == len(words) - 1:
        return name, tuple([number_in(word) for word in words[1:]])
    return None
