"""Grants: choices with a row, and choices that come as near to a row as can be."""

from contentties.errors import Barred
from contentties.kinds import need_few_places
from contentties.lacks import lack_in
from contentties.lots import every_lots, excess_in, framed, frames
from contentties.spans import allowed_by, grown, slope, span_in
from contentties.webs import Web


class Plan:
    """What is found once for a web, so that choices with many of its rows are found quickly."""

    def __init__(self, web):
        self.last = web.size - 1
        self.all_frames = frames(web)
        self.stages = _stages(web)

    def choice_with(self, row):
        """Return a choice with this row; raise Barred if there is none."""
        amount, lots = lack_in(self.all_frames, row)
        if amount > 0:
            raise Barred(row, lots)
        ties = []
        needs = row
        for (u, v), most, stage_frames in self.stages:
            # What place u still needs can only come from its last bundle.
            number = needs[u] if v == self.last else _least_kept(stage_frames, needs, (u, v), most)
            needs = grown(needs, (u, v), -number)
            ties.append((u, v, number))
        return Web(self.last + 1, ties)


def grant(web, row):
    """Return a choice with this row; raise Barred if there is none."""
    need_few_places(web)
    return Plan(web).choice_with(row)


def closest(web, row):
    """Return a choice the distance of whose degrees from this row is the lack of the row."""
    need_few_places(web)
    plan = Plan(web)
    return plan.choice_with(_nearest_granted(plan.all_frames, row))


def _stages(web):
    """Return the list of the tuples (pair, number, frames) of all pairs, one after another.

    The frames are those of the web without the ties of this pair and of those ahead of it.
    """
    stages = []
    rest = web
    for u in range(web.size):
        for v in range(u + 1, web.size):
            rest = rest.changed(u, v, 0)
            stages.append(((u, v), web[u, v], _frames_from(rest, u)))
    return stages


def _frames_from(web, first):
    """Return the frames of the lots without places ahead of the first one.

    The places ahead of it neither have nor need ties any more, and change no excess.
    """
    return [framed(web, lots) for lots in every_lots(web.size) if min(lots[0] + lots[1], default=first) >= first]


def _least_kept(all_frames, needs, pair, most):
    """Return a number of ties of a pair that can be kept, of which there is at least one."""
    evens = span_in(all_frames, needs, pair, 0, most)
    if evens:
        return evens.low
    return span_in(all_frames, needs, pair, 1, most).low


def _nearest_granted(all_frames, row):
    """Return a granted row the distance of which from a row is the lack of the row.

    Each item in turn is changed as far as each step lowers the lack. All granted rows that are
    nearest to what comes of this have the same item there, so that it stays as it is.
    """
    near = row
    left = lack_in(all_frames, row)[0]
    for place in range(len(row)):
        for sign in (1, -1):
            steps = _steps(all_frames, near, left, place, sign)
            near = grown(near, (place,), sign * steps)
            left = left - steps
    return near


def _steps(all_frames, row, left, place, sign):
    """Return how many steps of an item each lower the lack, which is left at first, by 1."""
    evens = _steps_from(all_frames, row, left, (place, sign), 0)
    odds = _steps_from(all_frames, row, left, (place, sign), 1)
    return (evens | odds).high


def _steps_from(all_frames, row, left, step, least):
    """Return the Want of those of the numbers least, least + 2 .. of steps that lower the lack by as much.

    They do so if no excess is below minus what is left of the lack then.
    """
    place, sign = step
    begun = grown(row, (place,), sign * least)
    lines = [(excess_in(frame, begun) + left - least, slope(frame, (place,), 2 * sign) - 2) for frame in all_frames]
    return allowed_by(lines, least, left)
