"""The error classes of the package.

An error keeps the arguments of its constructor as its fields. They are not put into a
message, as they may be any values, also some that cannot be written out.
"""


class ContentError(ValueError):
    """What every other error of the package is."""


class Wrong(ContentError):
    """The argument at this place is not as described."""

    def __init__(self, place):
        self.place = place


class TooMany(ContentError):
    """There is more of something than this limit."""

    def __init__(self, limit):
        self.limit = limit


class BadTie(ContentError):
    """The item with this index gives no ties between two places."""

    def __init__(self, at):
        self.at = at


class TooFew(ContentError):
    """There are fewer ties between these two places than are taken away."""

    def __init__(self, pair):
        self.pair = pair


class Unequal(ContentError):
    """Two things that must be equal are not."""

    def __init__(self, one, other):
        self.one = one
        self.other = other


class Barred(ContentError):
    """The row is not granted, and these lots bar it."""

    def __init__(self, row, lots):
        self.row = row
        self.lots = lots


class NoIndex(ContentError):
    """Nothing has this index."""

    def __init__(self, index):
        self.index = index


class NoChoice(ContentError):
    """This is none of the choices."""

    def __init__(self, kept):
        self.kept = kept


class NoText(ContentError):
    """The line with this number cannot stand there."""

    def __init__(self, line):
        self.line = line


class NoCommand(ContentError):
    """This is no command."""

    def __init__(self, line):
        self.line = line


class Nothing(ContentError):
    """There is no deed to take back, or to do again."""
