"""The worst rows from wants: whether all of them are granted, and how much is lacking at worst."""

from contentties.kinds import need_few_places
from contentties.lots import excess_in, framed, frames
from contentties.wants import Want


def is_wants(web, thing):
    """Return whether any value is a tuple of wants that are not empty, one for each place of a web."""
    if not isinstance(thing, tuple) or len(thing) != web.size:
        return False
    return all([isinstance(want, Want) and bool(want) for want in thing])


def is_out_of(wants, row):
    """Return whether a row is from wants."""
    return all([item in want for item, want in zip(row, wants)])


def has_row(wants, parity):
    """Return whether some row from wants has this parity."""
    if any([want.evens and want.odds for want in wants]):
        return True
    return sum([want.low for want in wants]) % 2 == parity


def least_excess(web, wants, parity, lots):
    """Return the least excess, with these lots, of the rows of a parity from wants; None without such a row."""
    if not has_row(wants, parity):
        return None
    return least_excesses([framed(web, lots)], wants, parity)[0]


def worst(web, wants, parity):
    """Return the greatest lack of a row of a parity from wants, the row and lots; None without such a row."""
    need_few_places(web)
    if not has_row(wants, parity):
        return None
    all_frames = frames(web)
    rows = _least_rows(all_frames, wants, parity)
    return max([(-excess_in(frame, row), row, frame[:2]) for frame, row in zip(all_frames, rows)])


def every(web, wants):
    """Return whether all even rows from wants are granted, with a row and lots that bar it if not."""
    found = worst(web, wants, 0)
    if found is None:
        return ("none",)
    amount, row, lots = found
    if amount == 0:
        return ("every",)
    return "barred", row, lots


def least_excesses(all_frames, wants, parity):
    """Return the list of the least excess for each frame, of the rows of a parity from wants, which has some."""
    rows = _least_rows(all_frames, wants, parity)
    return [excess_in(frame, row) for frame, row in zip(all_frames, rows)]


def _least_rows(all_frames, wants, parity):
    """Return the list of a row of a parity with the least excess for each frame."""
    ends = [_ends(want) for want in wants]
    return [_least_row(frame, ends, parity) for frame in all_frames]


def _ends(want):
    """Return the least integer, the least one of the other parity, and the same with the greatest."""
    return want.low, want.least(1 - want.low % 2), want.high, want.greatest(1 - want.high % 2)


def _least_row(frame, ends, parity):
    """Return a row of a parity with the least excess: the free row, or this after its cheapest turn."""
    _, t, _, groups = frame
    row = [high if place in t else low for place, (low, _, high, _) in enumerate(ends)]
    turns = _turns_in_lots(frame, ends)
    for piece, to_t in groups:
        free = [place for place in piece if ends[place][1] is not None]
        if free:
            low, other = ends[free[0]][:2]
            is_odd = (sum([row[place] for place in piece]) + to_t) % 2 == 1
            row[free[0]] = low if is_odd else other
            turns.append((1, free[0], other if is_odd else low))
    if sum(row) % 2 != parity:
        _, place, item = min(turns)
        row[place] = item
    return tuple(row)


def _turns_in_lots(frame, ends):
    """Return the turns at places in lots: tuples of the cost, the place and its integer of the other parity."""
    s, t, _, _ = frame
    in_s = [(place, *ends[place][:2]) for place in s]
    in_t = [(place, *ends[place][2:]) for place in t]
    return [(abs(other - item), place, other) for place, item, other in in_s + in_t if other is not None]
