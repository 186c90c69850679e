"""How many leaves lines have.

The share of the trees in which a set is a line is summed over all sets at once: it depends on how many leaves of
each birth the set has, so the sets are put together birth by birth, and for each number of leaves the chances of
the number of lines are summed.
"""

from math import comb

from datedlines.alive import alive
from datedlines.calendars import days_many, leaves_many, newborn
from datedlines.checks import ask_born_leaf, ask_moment
from datedlines.polynomials import whole
from datedlines.setlines import over_day
from datedlines.shares import add_share, pairs_of, times


def line_sizes(calendar, d, x):
    """Return the pairs (i, share): how many leaves the line with the leaf x has behind day d."""
    ask_moment(d, days_many(calendar) - 1)
    ask_born_leaf(calendar, x, d)
    return pairs_of(_summed(calendar, d, (x,)))


def spectrum(calendar, d):
    """Return at each index i - 1 the mean number of lines with i leaves behind day d."""
    ask_moment(d, days_many(calendar) - 1)
    sums = _summed(calendar, d, ())
    return tuple([sums.get(i, (0, 1)) for i in range(1, leaves_many(calendar) + 1)])


def _summed(calendar, d, fixed):
    """Return for each i the sum of is_bough over all sets of i leaves that have the fixed ones."""
    sums = {0: {0: (1, 1)}}
    for e in range(d + 1):
        born = newborn(calendar, e)
        needed = len([x for x in fixed if x in born])
        k = alive(calendar, e)
        sums = _with_chosen(sums, len(born) - needed, needed)
        sums = {i: over_day(sums[i], k, whole(k, calendar.days[e])) for i in sums}
    return {i: sums[i].get(1, (0, 1)) for i in sums}


def _with_chosen(sums, free, needed):
    """Return the sums when the sets have got all the needed newborn leaves and some of the free ones."""
    found = {}
    for i in sums:
        for more in range(needed, needed + free + 1):
            target = found.setdefault(i + more, {})
            for j in sums[i]:
                add_share(target, j + more, times(sums[i][j], (comb(free, more - needed), 1)))
    return found
