"""Leaves that have met nobody, and those that meet one other leaf alone."""

from math import comb

from datedlines.alive import alive
from datedlines.calendars import days_many, leaves_many, newborn
from datedlines.checks import ask_leaf, ask_moment, ask_two_leaves
from datedlines.meetings import first_days, joins
from datedlines.patterns import met
from datedlines.shares import add_share, pairs_of, plus, share, times


def bare(calendar, d):
    """Return the pairs (j, share): how many leaves born by day d are a line by themselves behind it."""
    ask_moment(d, days_many(calendar) - 1)
    now = {0: (1, 1)}
    for e in range(d + 1):
        born = len(newborn(calendar, e))
        now = _bare_behind({b + born: now[b] for b in now}, alive(calendar, e), met(calendar.days[e]))
    return pairs_of(now)


def _bare_behind(ahead, k, meeting):
    """Return the chances of the number of bare leaves behind a day on which so many of k lines meet."""
    behind = {}
    for b in ahead:
        for left in range(max(0, b - meeting), min(b, k - meeting) + 1):
            ways = comb(k - meeting, left) * comb(meeting, b - left)
            add_share(behind, left, times(ahead[b], share(ways, comb(k, b))))
    return behind


def first_met(calendar, x):
    """Return the pairs (d, share) of the first day on which the line of x is in a group."""
    ask_leaf(calendar, x)
    born = calendar.born[x]
    return first_days(born, [joins(calendar, d) for d in range(born, days_many(calendar))])


def sisters(calendar, x, y):
    """Return the share of the trees in which x and y meet in a group of two lines that are these leaves."""
    ask_two_leaves(calendar, x, y)
    earlier, later = sorted([calendar.born[x], calendar.born[y]])
    found = (0, 1)
    both_bare = (1, 1)
    for d in range(earlier, days_many(calendar)):
        k = alive(calendar, d)
        single = k - met(calendar.days[d])
        if d < later:
            both_bare = times(both_bare, share(single, k))
        else:
            here = share(2 * calendar.days[d].count(2), k * (k - 1))
            found = plus(found, times(both_bare, here))
            both_bare = times(both_bare, share(single * (single - 1), k * (k - 1)))
    return found


def twins(calendar):
    """Return the mean number of groups of two single leaves in a tree."""
    total = (0, 1)
    for y in range(leaves_many(calendar)):
        for x in range(y):
            total = plus(total, sisters(calendar, x, y))
    return total
