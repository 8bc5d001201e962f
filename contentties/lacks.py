"""Lacks: how far a row is from what a web grants."""

from contentties.kinds import need_few_places
from contentties.lots import every_lots, excess


def lack(web, row):
    """Return the lack of a row, and lots for which it is minus the excess."""
    need_few_places(web)
    return max([(-excess(web, row, lots), lots) for lots in every_lots(web.size)])
