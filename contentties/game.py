"""In turn: places name their numbers one after another, and the keeper settles ties behind each."""

from contentties.errors import TooMany
from contentties.kinds import ascends, every_pick, is_from_to, is_whole
from contentties.worst import has_row

MOST_PLAYING = 4
MOST_IN_BUNDLE = 2
MOST_IN_WANT = 3


class Play:
    """A web and wants, and the needs from which the keeper wins, as far as they have been looked at."""

    def __init__(self, web, wants):
        self.web = web
        self.wants = wants
        self.looked_at = {}

    def is_won(self, needs):
        """Return whether the keeper wins from these needs on."""
        if len(needs) == self.web.size:
            return not any(needs)
        if needs not in self.looked_at:
            self.looked_at[needs] = self.losing(needs) is None
        return self.looked_at[needs]

    def losing(self, needs):
        """Return an allowed number to which the keeper has no good answer, None if there is none."""
        for number in _allowed(self.wants, needs):
            if self.reply(needs, number) is None:
                return number
        return None

    def reply(self, needs, number):
        """Return an answer from which on the keeper wins, None if there is none."""
        for answer in _answers(self.web, needs):
            if self.is_won(after(needs, number, answer)):
                return answer
        return None


def in_turn(web, wants):
    """Return whether the keeper wins, with a table by which the keeper, or the wisher, plays."""
    _need_few(web, wants)
    play = Play(web, wants)
    if play.is_won(()):
        return "keeps", _keeper_table(play)
    return "loses", _wisher_table(play)


def is_keeper(web, wants, thing):
    """Return whether any value is a keeper's table."""
    _need_few(web, wants)
    if not isinstance(thing, list) or not all([_is_answered(web, wants, entry) for entry in thing]):
        return False
    named = [(needs, number) for needs, number, _ in thing]
    there = {key: True for key in named}
    reached = [()] + [after(*entry) for entry in thing]
    return ascends(named) and all([_is_kept(web, wants, there, needs) for needs in reached])


def is_wisher(web, wants, thing):
    """Return whether any value is a wisher's table."""
    _need_few(web, wants)
    if not isinstance(thing, list) or not all([_is_named(web, wants, entry) for entry in thing]):
        return False
    there = {needs: True for needs, _ in thing}
    reached = [()] + [needs for entry in thing for needs in _behind(web, entry)]
    return ascends([needs for needs, _ in thing]) and all([_is_lost(web, there, needs) for needs in reached])


def allowed(web, wants, needs):
    """Return the ascending list of the numbers that the next place may name."""
    _need_few(web, wants)
    return _allowed(wants, needs)


def answers(web, wants, needs):
    """Return the ascending list of all answers to whatever the next place names."""
    _need_few(web, wants)
    return _answers(web, needs)


def after(needs, number, answer):
    """Return the needs behind an answer to a number."""
    left = [need - kept for need, kept in zip(needs, answer)]
    return (*left, number - sum(answer))


def _need_few(web, wants):
    """Raise TooMany for webs and wants with more plays than are gone through."""
    if web.size > MOST_PLAYING:
        raise TooMany(MOST_PLAYING)
    if any([number > MOST_IN_BUNDLE for _, _, number in web.ties]):
        raise TooMany(MOST_IN_BUNDLE)
    if any([want.many > MOST_IN_WANT for want in wants]):
        raise TooMany(MOST_IN_WANT)


def _allowed(wants, needs):
    """Return the ascending list of the numbers that the next place may name."""
    place = len(needs)
    numbers = wants[place].first(MOST_IN_WANT)
    return [number for number in numbers if has_row(wants[place + 1:], (sum(needs) + number) % 2)]


def _answers(web, needs):
    """Return the ascending list of all answers of the next place."""
    place = len(needs)
    return every_pick([list(range(web[ahead, place] + 1)) for ahead in range(place)])


def _keeper_table(play):
    """Return the keeper's table for all needs that come of it, where the keeper wins."""
    table = []
    seen = set()
    left = [()]
    while left:
        needs = left.pop()
        if len(needs) < play.web.size and needs not in seen:
            seen.add(needs)
            found = [(needs, number, play.reply(needs, number)) for number in _allowed(play.wants, needs)]
            table.extend(found)
            left.extend([after(*entry) for entry in found])
    return sorted(table)


def _wisher_table(play):
    """Return the wisher's table for all needs that come of it, where the keeper does not win."""
    table = []
    seen = set()
    left = [()]
    while left:
        needs = left.pop()
        if len(needs) < play.web.size and needs not in seen:
            seen.add(needs)
            entry = (needs, play.losing(needs))
            table.append(entry)
            left.extend(_behind(play.web, entry))
    return sorted(table)


def _behind(web, entry):
    """Return the list of the needs behind all answers to an entry of a wisher's table."""
    needs, number = entry
    return [after(needs, number, answer) for answer in _answers(web, needs)]


def _is_kept(web, wants, there, needs):
    """Return whether needs are all 0 in the end, or a keeper's table has an answer to all that is allowed there."""
    if len(needs) == web.size:
        return not any(needs)
    return all([(needs, number) in there for number in _allowed(wants, needs)])


def _is_lost(web, there, needs):
    """Return whether needs are not all 0 in the end, or stand in a wisher's table."""
    if len(needs) == web.size:
        return any([need != 0 for need in needs])
    return needs in there


def _is_named(web, wants, thing):
    """Return whether any value is a tuple of needs and a number that is allowed there."""
    if not isinstance(thing, tuple) or len(thing) != 2 or not _is_needs(web, thing[0]):
        return False
    return is_whole(thing[1]) and thing[1] in _allowed(wants, thing[0])


def _is_answered(web, wants, thing):
    """Return whether any value is a tuple of needs, a number that is allowed there, and an answer."""
    if not isinstance(thing, tuple) or len(thing) != 3 or not _is_named(web, wants, thing[:2]):
        return False
    needs, _, answer = thing
    if not isinstance(answer, tuple) or len(answer) != len(needs):
        return False
    return all([is_from_to(kept, 0, web[ahead, len(needs)]) for ahead, kept in enumerate(answer)])


def _is_needs(web, thing):
    """Return whether any value is needs of less than all places."""
    return isinstance(thing, tuple) and len(thing) < web.size and all([is_whole(need) for need in thing])
