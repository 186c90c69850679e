"""How two sets mix.

Of the lines alive some have leaves of the set one alone, some of two alone, some of both; their numbers a, b, c
are what is told from day to day.
"""

from math import comb

from datedlines.alive import alive
from datedlines.calendars import days_many
from datedlines.checks import ask_moment, ask_set
from datedlines.errors import BadFamily
from datedlines.shares import add_share, minus, pairs_of, plus, share, times


def two_sets(calendar, one, two, d):
    """Return the pairs ((a, b, c), share) of the numbers of lines behind day d."""
    ask_set(calendar, one)
    ask_set(calendar, two)
    ask_moment(d, days_many(calendar) - 1)
    _ask_apart(one, two)
    now = {(0, 0, 0): (1, 1)}
    for e in range(d + 1):
        now = _over_day(calendar, one, two, e, now)
    return pairs_of(now)


def first_mix(calendar, one, two):
    """Return the pairs (d, share) of the first day behind which some line has leaves of both sets."""
    ask_set(calendar, one)
    ask_set(calendar, two)
    _ask_apart(one, two)
    found = {}
    left = (1, 1)
    unmixed = {(0, 0, 0): (1, 1)}
    for d in range(days_many(calendar)):
        now = _over_day(calendar, one, two, d, unmixed)
        unmixed = {lot: now[lot] for lot in now if lot[2] == 0}
        before = left
        left = (0, 1)
        for lot in unmixed:
            left = plus(left, unmixed[lot])
        found[d] = minus(before, left)
    found[days_many(calendar)] = left
    return pairs_of(found)


def _ask_apart(one, two):
    """Raise BadFamily if the sets have a leaf in common."""
    if any([x in two for x in one]):
        raise BadFamily(1)


def _over_day(calendar, one, two, d, chances):
    """Return the chances of the numbers (a, b, c) behind day d from those behind the day before it."""
    more_a = len([x for x in one if calendar.born[x] == d])
    more_b = len([x for x in two if calendar.born[x] == d])
    k = alive(calendar, d)
    behind = {}
    for a, b, c in chances:
        lot = (a + more_a, b + more_b, c)
        ways = _ways_behind(calendar.days[d], k, lot)
        everything = _parted(k, lot)
        for after in ways:
            add_share(behind, after, times(chances[(a, b, c)], share(ways[after], everything)))
    return behind


def _parted(k, lot):
    """Return the number of ways to give k places to so many lines of each kind; like lines are not told apart."""
    a, b, c = lot
    return comb(k, a) * comb(k - a, b) * comb(k - a - b, c)


def _ways_behind(pattern, k, lot):
    """Return for each (a, b, c) behind a day in how many of these ways the lines of the lot become such."""
    # Lots still to be placed, with the numbers of lines that the groups so far have become.
    now = {(lot, (0, 0, 0)): 1}
    for s in pattern:
        longer = {}
        for left, made in now:
            for taken in _lots_within(s, left):
                place = (_difference(left, taken), _with_group(made, taken))
                longer[place] = longer.get(place, 0) + now[(left, made)] * _parted(s, taken)
        now = longer
    found = {}
    single = k - sum(pattern)
    for left, made in now:
        if sum(left) <= single:
            after = (left[0] + made[0], left[1] + made[1], left[2] + made[2])
            found[after] = found.get(after, 0) + now[(left, made)] * _parted(single, left)
    return found


def _lots_within(s, left):
    """Return all (a, b, c) of at most s lines, each number at most the one that is left."""
    found = []
    for a in range(min(s, left[0]) + 1):
        for b in range(min(s - a, left[1]) + 1):
            for c in range(min(s - a - b, left[2]) + 1):
                found.append((a, b, c))
    return found


def _difference(left, taken):
    """Return what is left of a lot when some of it has been taken."""
    return (left[0] - taken[0], left[1] - taken[1], left[2] - taken[2])


def _with_group(made, taken):
    """Return the numbers of lines made, with the line that a group of these lines has become."""
    a, b, c = made
    if taken[2] > 0 or (taken[0] > 0 and taken[1] > 0):
        c += 1
    elif taken[0] > 0:
        a += 1
    elif taken[1] > 0:
        b += 1
    return (a, b, c)
