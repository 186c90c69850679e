"""Calendars of a special look."""

from datedlines.alive import alive, ends
from datedlines.calendars import Calendar
from datedlines.checks import MOST_LEAVES, ask_leaves_many, is_from_to
from datedlines.errors import BadSize
from datedlines.patterns import met


def is_plain(calendar):
    """Tell whether all leaves are born 0, each day is (2,), and one line is left at the end."""
    early = all([moment == 0 for moment in calendar.born])
    return early and all([pattern == (2,) for pattern in calendar.days]) and ends(calendar) == 1


def is_level(calendar):
    """Tell whether on each day all lines meet, in groups of one size, and one line is left at the end."""
    sizes = []
    for d, pattern in enumerate(calendar.days):
        if met(pattern) != alive(calendar, d):
            return False
        sizes.extend(pattern)
    return all([s == sizes[0] for s in sizes]) and ends(calendar) == 1


def plain(n):
    """Return the calendar of n leaves born 0 and n - 1 days (2,)."""
    ask_leaves_many(n)
    return Calendar((0,) * n, ((2,),) * (n - 1))


def star(n):
    """Return the calendar of n leaves born 0 and one day on which all meet."""
    if not is_from_to(n, 2, MOST_LEAVES):
        raise BadSize(n)
    return Calendar((0,) * n, ((n,),))
