"""How large the line of a leaf is in the mean, and how deep a leaf stands."""

from datedlines.calendars import days_many, leaves_many
from datedlines.checks import ask_born_leaf, ask_leaf, ask_moment
from datedlines.meetings import joins, meeting
from datedlines.shares import add_share, minus, pairs_of, plus, times


def bough_mean(calendar, d, x):
    """Return the mean number of leaves of the line with the leaf x ahead of day d."""
    ask_moment(d, days_many(calendar))
    ask_born_leaf(calendar, x, d)
    total = (1, 1)
    for y in range(leaves_many(calendar)):
        if y != x:
            for e, one in meeting(calendar, x, y):
                if e < d:
                    total = plus(total, one)
    return total


def depth_chances(calendar, x):
    """Return the pairs (j, share): on how many days the line of x is in a group."""
    ask_leaf(calendar, x)
    now = {0: (1, 1)}
    for d in range(calendar.born[x], days_many(calendar)):
        joined = joins(calendar, d)
        behind = {}
        for j in now:
            add_share(behind, j, times(now[j], minus((1, 1), joined)))
            add_share(behind, j + 1, times(now[j], joined))
        now = behind
    return pairs_of(now)


def depth_mean(calendar, x):
    """Return the mean number of joints that have the leaf x."""
    ask_leaf(calendar, x)
    total = (0, 1)
    for d in range(calendar.born[x], days_many(calendar)):
        total = plus(total, joins(calendar, d))
    return total
