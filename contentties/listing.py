"""Listing: all choices of a small web, their rows and their numbers."""

from contentties.errors import NoChoice, NoIndex
from contentties.kinds import every_pick, is_from_to, need_few_choices, pairs_of
from contentties.spans import grown
from contentties.webs import Web


class Choices:
    """The choices of a web, all of them or those with one row, numbered from 0."""

    def __init__(self, web, row=None):
        self.source = web
        self.sought = row
        self._listed = _numbers_of_choices(web, row)
        self._at = {kept: at for at, kept in enumerate(self._listed)}

    def __len__(self):
        return len(self._listed)

    def __contains__(self, x):
        return isinstance(x, Web) and x.size == self.source.size and numbers(x) in self._at

    def __getitem__(self, at):
        if not is_from_to(at, 0, len(self._listed) - 1):
            raise NoIndex(at)
        return _web_with(self.source.size, self._listed[at])

    def __iter__(self):
        raise TypeError("choices are not iterated")

    def number_of(self, kept):
        """Return the number of a choice; raise NoChoice for any other value."""
        if kept not in self:
            raise NoChoice(kept)
        return self._at[numbers(kept)]


def numbers(web):
    """Return the tuple of the numbers of ties of all bundles, also of those without ties."""
    return tuple([web[pair] for pair in pairs_of(web.size)])


def choices(web, row=None):
    """Return the ascending list of the choices of a web, of all or of those with one row."""
    return [_web_with(web.size, kept) for kept in _numbers_of_choices(web, row)]


def granted_rows(web):
    """Return the ascending list of the rows that a web grants."""
    return sorted(row_counts(web))


def row_counts(web):
    """Return a dict from each row that a web grants to the number of choices that have it."""
    need_few_choices(web)
    counts = {(0,) * web.size: 1}
    for u, v, most in web.ties:
        counts = _with_bundle(counts, (u, v), most)
    return counts


def _numbers_of_choices(web, row):
    """Return the ascending list of the numbers of the choices of a web, of all or of those with one row."""
    need_few_choices(web)
    if row is None:
        return every_pick([list(range(most + 1)) for most in numbers(web)])
    found = [((), row)]
    for pair, most in zip(pairs_of(web.size), numbers(web)):
        found = [((*kept, number), grown(needs, pair, -number))
                 for kept, needs in found for number in _possible(pair, needs, most)]
    return [kept for kept, needs in found if not any(needs)]


def _possible(pair, needs, most):
    """Return the ascending list of the numbers of ties of a pair that leave no need below 0.

    What place u still needs can only come from its last bundle.
    """
    u, v = pair
    high = min(most, needs[u], needs[v])
    if v < len(needs) - 1:
        return list(range(high + 1))
    return [needs[u]] if 0 <= needs[u] <= high else []


def _with_bundle(counts, pair, most):
    """Return the dict of the rows and their numbers of choices, with one more bundle."""
    added = {}
    for row in counts:
        for number in range(most + 1):
            reached = grown(row, pair, number)
            added[reached] = added.get(reached, 0) + counts[row]
    return added


def _web_with(size, kept):
    """Return the Web that has these numbers."""
    return Web(size, [(u, v, number) for (u, v), number in zip(pairs_of(size), kept)])
