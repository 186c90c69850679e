"""The joints of a tree, and what they tell of its leaves."""

from datedlines.checks import ask_leaf, ask_two_leaves
from datedlines.treelines import joined, line_with, with_newborn
from datedlines.trees import made_tree


def met_on(calendar, tree, x, y):
    """Return the day on which two leaves first stand in one line, None if they never do."""
    made_tree(calendar, tree)
    ask_two_leaves(calendar, x, y)
    for d, _, leaves in _joints_of(calendar, tree):
        if x in leaves and y in leaves:
            return d
    return None


def joints(calendar, tree):
    """Return the triples (day, names of the group, leaves of the new line), ascending."""
    made_tree(calendar, tree)
    return tuple(_joints_of(calendar, tree))


def depth(calendar, tree, x):
    """Return how many joints have the leaf x."""
    return len(path(calendar, tree, x))


def path(calendar, tree, x):
    """Return the days of the joints that have the leaf x, ascending."""
    made_tree(calendar, tree)
    ask_leaf(calendar, x)
    return tuple([d for d, _, leaves in _joints_of(calendar, tree) if x in leaves])


def _joints_of(calendar, tree):
    """Return the joints of a tree that has been asked already."""
    found = []
    now = with_newborn((), calendar, 0)
    for d, row in enumerate(tree):
        now = joined(now, row)
        for group in row:
            found.append((d, group, line_with(now, group[0])))
        now = with_newborn(now, calendar, d + 1)
    return found
