"""Lacks: how far a row is from what a web grants."""

from contentties.kinds import need_few_places
from contentties.lots import excess_in, frames


def lack(web, row):
    """Return the lack of a row, and lots for which it is minus the excess."""
    need_few_places(web)
    return lack_in(frames(web), row)


def lack_in(all_frames, row):
    """Return the lack of a row of the web that has these frames, and lots as above."""
    return max([(-excess_in(frame, row), frame[:2]) for frame in all_frames])
