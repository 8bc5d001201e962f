"""Drafts: webs that can be changed."""

from contentties.errors import Unequal


class Draft:
    """Holds the present Web, and puts another one in its place when it is changed."""

    def __init__(self, web):
        self.held = web

    def __getitem__(self, at):
        u, v = at
        return self.held[u, v]

    def __setitem__(self, at, worth):
        u, v = at
        self.held = self.held.changed(u, v, worth)

    def __iter__(self):
        raise TypeError("a draft is not iterated")

    def __iadd__(self, other):
        self.held = self.held + other
        return self

    def __isub__(self, other):
        self.held = self.held - other
        return self

    def become(self, web):
        """Make another Web of the same size the present one."""
        if web.size != self.held.size:
            raise Unequal(self.held.size, web.size)
        self.held = web
