"""Trees by their numbers."""

from datedlines.calendars import newborn
from datedlines.errors import BadCount
from datedlines.nthgroups import groups_rank, nth_groups
from datedlines.numbers import size, ways_of_days
from datedlines.trees import made_tree, names_after


def nth_tree(calendar, k):
    """Return the tree with the number k."""
    if not 0 <= k < size(calendar):
        raise BadCount(k)
    names = newborn(calendar, 0)
    tree = []
    for d, figure in enumerate(_figures(calendar, k)):
        row = nth_groups(names, calendar.days[d], figure)
        names = names_after(calendar, d, names, row)
        tree.append(row)
    return tuple(tree)


def _figures(calendar, k):
    """Return the figures of the number k, one for each day."""
    figures = []
    left = k
    for many in reversed(ways_of_days(calendar)):
        left, figure = divmod(left, many)
        figures.append(figure)
    return figures[::-1]


def tree_rank(calendar, tree):
    """Return the number of the tree."""
    made_tree(calendar, tree)
    return head_rank(calendar, tree)


def head_rank(calendar, rows):
    """Return the number of the rows of the first days of a tree among all such rows of as many days."""
    many = ways_of_days(calendar)
    names = newborn(calendar, 0)
    rank = 0
    for d, row in enumerate(rows):
        rank = rank * many[d] + groups_rank(names, calendar.days[d], row)
        names = names_after(calendar, d, names, row)
    return rank
