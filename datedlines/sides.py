"""Calendars that are woven, trees beside one another, and trees in which a set keeps to itself."""

from datedlines.alive import alive
from datedlines.calendars import Calendar, days_many, leaves_many
from datedlines.checks import MOST_LEAVES, ask_set, is_from_to
from datedlines.errors import BadSize, BadWeave
from datedlines.numbers import size
from datedlines.patterns import less, ways
from datedlines.shares import share
from datedlines.toldboughs import parted
from datedlines.trees import made_tree

ONE = 0
TWO = 1
BOTH = 2


def woven(one, two, row):
    """Return the calendar in which the days of two calendars stand in one row."""
    _ask_weave(one, two, row)
    leaves = leaves_many(one) + leaves_many(two)
    if leaves > MOST_LEAVES:
        raise BadSize(leaves)
    days = []
    for left, right in _side_by_side(one.days, two.days, row):
        days.append(tuple(sorted(left + right, reverse=True)))
    return Calendar(_births(one, row, ONE) + _births(two, row, TWO), tuple(days))


def _ask_weave(one, two, row):
    """Raise BadWeave unless the row asks for each day of both calendars, and for no other one."""
    left = [days_many(one), days_many(two)]
    for i, number in enumerate(row):
        if not is_from_to(number, ONE, BOTH):
            raise BadWeave(i)
        for side in (ONE, TWO):
            if number in (side, BOTH):
                left[side] -= 1
        if min(left) < 0:
            raise BadWeave(i)
    if max(left) > 0:
        raise BadWeave(len(row))


def _places(row, side):
    """Return the days of the row that a side has a day on."""
    return [d for d, number in enumerate(row) if number in (side, BOTH)]


def _births(calendar, row, side):
    """Return the births of the leaves of a side among the days of the row."""
    moments = _places(row, side) + [len(row)]
    return tuple([moments[moment] for moment in calendar.born])


def _side_by_side(ones, twos, row):
    """Return for each day of the row the pair of what both sides have on it, () for a side that has no day there."""
    left = {d: ones[i] for i, d in enumerate(_places(row, ONE))}
    right = {d: twos[i] for i, d in enumerate(_places(row, TWO))}
    return [(left.get(d, ()), right.get(d, ())) for d in range(len(row))]


def beside(one, first, two, second, row):
    """Return the tree of the woven calendar that has the groups of a tree of each side."""
    made_tree(one, first)
    made_tree(two, second)
    woven(one, two, row)
    above = leaves_many(one)
    tree = []
    for left, right in _side_by_side(first, second, row):
        tree.append(left + tuple([tuple([name + above for name in group]) for group in right]))
    return tuple(tree)


def apart_share(one, two, row):
    """Return the share of the trees of the woven calendar that are beside of two trees."""
    return share(size(one) * size(two), size(woven(one, two, row)))


def unmixed(calendar, some):
    """Return how many trees have no group of lines with leaves of the set and lines without such leaves."""
    ask_set(calendar, some)
    # What is told from day to day is how many lines have leaves of the set.
    now = {0: 1}
    for d, pattern in enumerate(calendar.days):
        k = alive(calendar, d)
        born = len([x for x in some if calendar.born[x] == d])
        behind = {}
        for before in now:
            inside = before + born
            for inner, outer in parted(pattern, [inside, k - inside]):
                many = now[before] * ways(inside, inner) * ways(k - inside, outer)
                after = inside - less(inner)
                behind[after] = behind.get(after, 0) + many
        now = behind
    return sum(now.values())
