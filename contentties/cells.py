"""Cells and strips: webs of any length that are made of the same piece again and again."""

from contentties.errors import TooMany, Wrong
from contentties.kinds import is_from_to
from contentties.wants import Want
from contentties.webs import MOST_PLACES, Web

MOST_WIDE = 2
GREATEST_WISH = 9
MOST_TIES_OF_CELLS = 6


class Cell:
    """A piece of a strip, of one or two places."""

    def __init__(self, wants, inner=0):
        if not _is_wishes(wants):
            raise Wrong(0)
        if not is_from_to(inner, 0, MOST_TIES_OF_CELLS) or len(wants) == 1 and inner != 0:
            raise Wrong(1)
        self.wishes = tuple(wants)
        self.inner = inner

    def __len__(self):
        return len(self.wishes)

    def __eq__(self, other):
        return isinstance(other, Cell) and self.wishes == other.wishes and self.inner == other.inner


class Strip:
    """A head, then a cell any number of times, then a tail, each one tied to the next one alike."""

    def __init__(self, head, cell, tail, onward):
        if not isinstance(head, Cell):
            raise Wrong(0)
        if not _is_cell(cell, len(head)):
            raise Wrong(1)
        if not _is_cell(tail, len(head)):
            raise Wrong(2)
        if not _is_onward(onward, len(head)):
            raise Wrong(3)
        self.head = head
        self.cell = cell
        self.tail = tail
        self.onward = tuple([tuple(numbers) for numbers in onward])
        self.width = len(head)

    def __eq__(self, other):
        return (isinstance(other, Strip) and self.head == other.head and self.cell == other.cell
                and self.tail == other.tail and self.onward == other.onward)

    def web_of(self, count):
        """Return the Web of the strip with so many cells."""
        size = (count + 2) * self.width
        if size > MOST_PLACES:
            raise TooMany(MOST_PLACES)
        cells = cells_of(self, count)
        inner = [(2 * at, 2 * at + 1, cell.inner) for at, cell in enumerate(cells) if cell.inner > 0]
        return Web(size, inner + _onward_ties(self, count))

    def wants_of(self, count):
        """Return the tuple of the wants of the strip with so many cells."""
        return tuple([want for cell in cells_of(self, count) for want in cell.wishes])

    def mirrored(self):
        """Return the Strip read from the other end."""
        onward = [[numbers[place] for numbers in self.onward] for place in range(self.width)]
        return Strip(self.tail, self.cell, self.head, onward)


def cells_of(strip, count):
    """Return the list of the cells of the strip with so many cells, head and tail included."""
    return [strip.head] + [strip.cell] * count + [strip.tail]


def _is_wishes(thing):
    """Return whether a value is a list or tuple of one or two wants that a cell can have."""
    if not isinstance(thing, (list, tuple)) or not 1 <= len(thing) <= MOST_WIDE:
        return False
    return all([_is_wish(want) for want in thing])


def _is_wish(thing):
    """Return whether a value is a want that is not empty, with numbers that a cell can have."""
    return isinstance(thing, Want) and bool(thing) and 0 <= thing.low and thing.high <= GREATEST_WISH


def _is_cell(thing, width):
    """Return whether a value is a Cell of so many places."""
    return isinstance(thing, Cell) and len(thing) == width


def _is_onward(thing, width):
    """Return whether a value is a list or tuple with, for each place of a cell, the ties to the next one."""
    if not isinstance(thing, (list, tuple)) or len(thing) != width:
        return False
    return all([_is_numbers(numbers, width) for numbers in thing])


def _is_numbers(thing, width):
    """Return whether a value is a list or tuple of so many numbers of ties."""
    if not isinstance(thing, (list, tuple)) or len(thing) != width:
        return False
    return all([is_from_to(number, 0, MOST_TIES_OF_CELLS) for number in thing])


def _onward_ties(strip, count):
    """Return the list of the ties between each cell of a strip and the next one."""
    width = strip.width
    return [(at * width + i, (at + 1) * width + j, number)
            for at in range(count + 1) for i, numbers in enumerate(strip.onward) for j, number in enumerate(numbers)]
