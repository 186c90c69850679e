"""Trees by their numbers."""

from datedlines.calendars import newborn
from datedlines.errors import BadCount
from datedlines.nthgroups import groups_rank, nth_groups
from datedlines.numbers import size, ways_of_days
from datedlines.trees import made_tree, names_after


def nth_tree(calendar, k):
    """Return the tree with the number k."""
    if not 0 <= k < size(calendar):
        raise BadCount(k)
    names = newborn(calendar, 0)
    tree = []
    for d, figure in enumerate(_figures(calendar, k)):
        row = nth_groups(names, calendar.days[d], figure)
        names = names_after(calendar, d, names, row)
        tree.append(row)
    return tuple(tree)


def _figures(calendar, k):
    """Return the figures of the number k, one for each day."""
    figures = []
    left = k
    for many in reversed(ways_of_days(calendar)):
        left, figure = divmod(left, many)
        figures.append(figure)
    return figures[::-1]


def tree_rank(calendar, tree):
    """Return the number of the tree."""
    made_tree(calendar, tree)
    names = newborn(calendar, 0)
    rank = 0
    for d, many in enumerate(ways_of_days(calendar)):
        rank = rank * many + groups_rank(names, calendar.days[d], tree[d])
        names = names_after(calendar, d, names, tree[d])
    return rank
