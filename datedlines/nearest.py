"""How many deeds lead at least from one tree to another."""

from datedlines.classes import ask_trees
from datedlines.deeds import offers
from datedlines.done import exchanged
from datedlines.trees import made_tree


def fewest(calendar, one, two):
    """Return the fewest deeds that lead from the tree one to the tree two."""
    made_tree(calendar, one)
    made_tree(calendar, two)
    ask_trees(calendar)
    return _steps_from(calendar, one)[two]


def balls(calendar, tree):
    """Return for 0, 1, .. how many trees have this number as their fewest deeds from the tree."""
    made_tree(calendar, tree)
    ask_trees(calendar)
    steps = list(_steps_from(calendar, tree).values())
    return tuple([steps.count(many) for many in range(max(steps) + 1)])


def _steps_from(calendar, tree):
    """Return for each tree the fewest deeds that lead to it from this one."""
    steps = {tree: 0}
    queue = [tree]
    at = 0
    while at < len(queue):
        old = queue[at]
        for deed in offers(calendar, old):
            new = exchanged(old, deed)
            if new not in steps:
                steps[new] = steps[old] + 1
                queue.append(new)
        at += 1
    return steps
