"""Calendars: on which day leaves come, and how many lines meet on each day."""

from datedlines.checks import MOST_LEAVES, is_from_to
from datedlines.errors import BadBirth, BadDay, BadLeaf, BadSize, TooFew
from datedlines.patterns import is_pattern, less, met

MOST_DAYS = 11


class Calendar:
    """The births of the leaves and the patterns of the days."""

    def __init__(self, born, days):
        self.born = born
        self.days = days

    def __eq__(self, other):
        return isinstance(other, Calendar) and self.born == other.born and self.days == other.days


def made_calendar(born, days):
    """Return the calendar with these births and days."""
    if not 1 <= len(born) <= MOST_LEAVES:
        raise BadSize(len(born))
    if len(days) > MOST_DAYS:
        raise BadDay(len(days))
    for d, pattern in enumerate(days):
        if pattern == () or not is_pattern(pattern):
            raise BadDay(d)
    for x, moment in enumerate(born):
        if not is_from_to(moment, 0, len(days)):
            raise BadBirth(x)
    _ask_lines(born, days)
    return Calendar(born, days)


def _ask_lines(born, days):
    """Raise TooFew for the first day on which more lines meet than are alive."""
    k = 0
    for d, pattern in enumerate(days):
        k = k + born.count(d)
        if met(pattern) > k:
            raise TooFew(d)
        k = k - less(pattern)


def leaves_many(calendar):
    """Return the number of leaves."""
    return len(calendar.born)


def days_many(calendar):
    """Return the number of days."""
    return len(calendar.days)


def newborn(calendar, d):
    """Return the leaves that are born d, ascending."""
    return tuple([x for x, moment in enumerate(calendar.born) if moment == d])


def births_among(calendar, some, days):
    """Return the births of some leaves where these days alone are left: how many of them lie ahead of each."""
    return tuple([len([d for d in days if d < calendar.born[x]]) for x in some])


def renamed(calendar, places):
    """Return the calendar in which leaf p has become the leaf places[p], with its birth."""
    many = leaves_many(calendar)
    if len(places) != many:
        raise BadSize(len(places))
    for i, place in enumerate(places):
        if not is_from_to(place, 0, many - 1) or place in places[:i]:
            raise BadLeaf(i)
    born = [calendar.born[places.index(x)] for x in range(many)]
    return Calendar(tuple(born), calendar.days)
