"""Ordered trees: trees in which the names of each group stand in any order."""

from math import factorial

from datedlines.checks import is_number
from datedlines.errors import BadCount
from datedlines.nthtree import nth_tree, tree_rank
from datedlines.numbers import size
from datedlines.trees import made_tree


def made_ordered(calendar, rows):
    """Return the rows if they are an ordered tree of the calendar."""
    plain_of(calendar, rows)
    return rows


def plain_of(calendar, ordered):
    """Return the tree with the names of each group ascending."""
    return made_tree(calendar, tuple([_plain_row(row) for row in ordered]))


def _plain_row(row):
    """Return the row with the names of each group ascending, None if it has no groups of numbers."""
    if not isinstance(row, tuple) or not all([_is_of_numbers(group) for group in row]):
        return None
    return tuple([tuple(sorted(group)) for group in row])


def _is_of_numbers(group):
    """Tell whether the group is a tuple of numbers."""
    return isinstance(group, tuple) and all([is_number(name) for name in group])


def ordered_size(calendar):
    """Return the number of ordered trees of the calendar."""
    return size(calendar) * _orders_many(calendar)


def _orders_many(calendar):
    """Return the number of ordered trees for each tree."""
    product = 1
    for pattern in calendar.days:
        for s in pattern:
            product = product * factorial(s)
    return product


def nth_ordered(calendar, k):
    """Return the ordered tree with the number k."""
    if not 0 <= k < ordered_size(calendar):
        raise BadCount(k)
    number, left = divmod(k, _orders_many(calendar))
    rows = []
    # The last group has the lowest figure, so the groups are gone through from the last one on.
    for row in nth_tree(calendar, number)[::-1]:
        groups = []
        for group in row[::-1]:
            left, figure = divmod(left, factorial(len(group)))
            groups.append(_nth_order(group, figure))
        rows.append(tuple(groups[::-1]))
    return tuple(rows[::-1])


def _nth_order(names, k):
    """Return the order with the index k of all orders of ascending names."""
    free = list(names)
    left = k
    order = []
    while len(free) > 0:
        at, left = divmod(left, factorial(len(free) - 1))
        order.append(free.pop(at))
    return tuple(order)


def ordered_rank(calendar, ordered):
    """Return the number of the ordered tree."""
    rank = tree_rank(calendar, plain_of(calendar, ordered))
    for row in ordered:
        for group in row:
            rank = rank * factorial(len(group)) + _order_rank(group)
    return rank


def _order_rank(order):
    """Return the index of an order among all orders of its names."""
    free = sorted(order)
    rank = 0
    for name in order:
        rank = rank * len(free) + free.index(name)
        free.remove(name)
    return rank
