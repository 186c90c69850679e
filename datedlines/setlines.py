"""In how many lines the leaves of a set stand."""

from math import comb

from datedlines.alive import alive
from datedlines.calendars import days_many
from datedlines.checks import ask_moment, ask_set
from datedlines.polynomials import touched
from datedlines.shares import add_share, minus, pairs_of, share, times


def set_lines(calendar, some, d):
    """Return the pairs (j, share): in how many lines the leaves of the set born by day d stand behind it."""
    ask_set(calendar, some)
    ask_moment(d, days_many(calendar) - 1)
    return pairs_of(_lines_behind(calendar, some)[d])


def all_met(calendar, some):
    """Return the pairs (d, share) of the first day behind which all leaves of the set stand in one line."""
    ask_set(calendar, some)
    found = {}
    before = (0, 1)
    behind = _lines_behind(calendar, some)
    for d in range(last_birth(calendar, some), days_many(calendar)):
        now = behind[d].get(1, (0, 1))
        found[d] = minus(now, before)
        before = now
    found[days_many(calendar)] = minus((1, 1), before)
    return pairs_of(found)


def last_birth(calendar, some):
    """Return the moment by which all leaves of the set are born."""
    return max([calendar.born[x] for x in some])


def _lines_behind(calendar, some):
    """Return for each day the chances of the number of lines behind it that have leaves of the set."""
    found = []
    now = {0: (1, 1)}
    for d, pattern in enumerate(calendar.days):
        k = alive(calendar, d)
        now = over_day(with_born(calendar, some, d, now), k, touched(k, pattern))
        found.append(now)
    return found


def with_born(calendar, some, d, chances):
    """Return the chances of a number of lines when the leaves of the set that are born d have come."""
    many = len([x for x in some if calendar.born[x] == d])
    return {i + many: chances[i] for i in chances}


def over_day(chances, k, polynomial):
    """Return the chances of the number of lines behind a day from those ahead of it, out of k lines.

    The number at u ** i * v ** j, divided by choose(k, i), is the chance that i lines become j lines.
    """
    behind = {}
    for i, j, number in polynomial:
        if i in chances:
            add_share(behind, j, times(chances[i], share(number, comb(k, i))))
    return behind
