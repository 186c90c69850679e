"""How likely a set is a line of its own."""

from datedlines.alive import alive
from datedlines.calendars import days_many
from datedlines.checks import ask_moment, ask_set, ask_set_of_several
from datedlines.polynomials import whole
from datedlines.setlines import last_birth, over_day, with_born
from datedlines.shares import pairs_of, plus


def is_bough(calendar, some, d):
    """Return the share of the trees in which the set is a line behind day d."""
    ask_set(calendar, some)
    ask_moment(d, days_many(calendar) - 1)
    if last_birth(calendar, some) > d:
        return (0, 1)
    now = {0: (1, 1)}
    for e in range(d + 1):
        now = _over_whole_day(calendar, some, e, now)
    return now.get(1, (0, 1))


def first_bough(calendar, some):
    """Return the pairs (d, share) of the first day behind which the set is a line."""
    ask_set_of_several(calendar, some)
    found = {}
    now = {0: (1, 1)}
    for d in range(days_many(calendar)):
        now = _over_whole_day(calendar, some, d, now)
        if d >= last_birth(calendar, some):
            # What is one line now goes on no longer, so each tree is counted on one day.
            found[d] = now.pop(1, (0, 1))
    return pairs_of(found)


def ever_bough(calendar, some):
    """Return the share of the trees in which the set is a line behind some day."""
    total = (0, 1)
    for _, one in first_bough(calendar, some):
        total = plus(total, one)
    return total


def _over_whole_day(calendar, some, d, chances):
    """Return the chances, over day d, of how many lines the set is that have met no other line."""
    k = alive(calendar, d)
    return over_day(with_born(calendar, some, d, chances), k, whole(k, calendar.days[d]))
