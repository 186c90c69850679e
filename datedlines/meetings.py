"""On which day two leaves meet, and how likely a line meets others on a day."""

from datedlines.alive import alive
from datedlines.calendars import days_many
from datedlines.checks import ask_born_leaf, ask_moment, ask_two_leaves
from datedlines.patterns import met
from datedlines.shares import minus, pairs_of, share, times


def meeting(calendar, x, y):
    """Return the pairs (d, share) of the day on which two leaves first stand in one line."""
    ask_two_leaves(calendar, x, y)
    later = max(calendar.born[x], calendar.born[y])
    return first_days(later, [meets(calendar, d) for d in range(later, days_many(calendar))])


def meets(calendar, d):
    """Return the share of the trees in which two given lines come into one group on day d."""
    k = alive(calendar, d)
    return share(sum([s * (s - 1) for s in calendar.days[d]]), k * (k - 1))


def first_days(start, chances):
    """Return the pairs (d, share) of the first day on which something comes true, the day behind all for never.

    The chances are those for the days from start on, each for what has not come true before.
    """
    found = {}
    left = (1, 1)
    for i, chance in enumerate(chances):
        found[start + i] = times(left, chance)
        left = minus(left, found[start + i])
    found[start + len(chances)] = left
    return pairs_of(found)


def partners(calendar, d, x):
    """Return the share of the trees in which the line of x is in a group on day d."""
    ask_moment(d, days_many(calendar) - 1)
    ask_born_leaf(calendar, x, d)
    return joins(calendar, d)


def joins(calendar, d):
    """Return the share of the trees in which a given line is in a group on day d."""
    return share(met(calendar.days[d]), alive(calendar, d))
