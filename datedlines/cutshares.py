"""How many trees have a given tree as what is left of them for the leaves of a set."""

from datedlines.alive import alive
from datedlines.calendars import births_among, days_many, leaves_many
from datedlines.checks import ask_set, is_from_to
from datedlines.cuts import placed
from datedlines.errors import BadBirth, BadDay, BadSize
from datedlines.numbers import size
from datedlines.patterns import less, met
from datedlines.shares import share, times


def cut_share(calendar, some, small, days):
    """Return the share of the trees whose cut to the set has this calendar and these days."""
    return share(cut_count(calendar, some, small, days) * size(small), size(calendar))


def cut_count(calendar, some, small, days):
    """Return how many trees have one given tree of the small calendar as their cut on these days."""
    ask_set(calendar, some)
    _ask_cut(calendar, some, small, days)
    many = (size(calendar), 1)
    gone = 0
    for d in range(days_many(calendar)):
        sizes = small.days[days.index(d)] if d in days else ()
        lines = born_by(calendar, some, d) - gone
        many = times(many, just_these_share(calendar, d, lines, sizes))
        gone += less(sizes)
    # It is a number of trees, so the share is a whole one.
    return many[0]


def _ask_cut(calendar, some, small, days):
    """Raise what is wrong with the small calendar or with its days."""
    if leaves_many(small) != len(some):
        raise BadSize(leaves_many(small))
    for i, d in enumerate(days):
        if not is_from_to(d, 0, days_many(calendar) - 1) or (i > 0 and d <= days[i - 1]):
            raise BadDay(i)
    if len(days) != days_many(small):
        raise BadDay((len(days),))
    births = births_among(calendar, some, days)
    for x, moment in enumerate(small.born):
        if moment != births[x]:
            raise BadBirth(x)


def born_by(calendar, some, d):
    """Return how many leaves of the set are born by day d."""
    return len([x for x in some if calendar.born[x] <= d])


def just_these_share(calendar, d, lines, sizes):
    """Return the chance that of so many lines those of given groups meet on day d, and no others with one another."""
    k = alive(calendar, d)
    if lines > k:
        return (0, 1)
    return placed(k, calendar.days[d], sizes + (1,) * (lines - met(sizes)))
