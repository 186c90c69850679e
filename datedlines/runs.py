"""Runs: deeds that are done one after the other."""

from datedlines.done import exchanged, wrong_with
from datedlines.errors import BadDeed, TooMany
from datedlines.trees import made_tree

MOST_DEEDS = 1000


def walked(calendar, tree, run):
    """Return the tree after the run."""
    made_tree(calendar, tree)
    if len(run) > MOST_DEEDS:
        raise TooMany(len(run))
    now = tree
    for i, deed in enumerate(run):
        which = wrong_with(calendar, now, deed)
        if which is not None:
            raise BadDeed((i, which))
        now = exchanged(now, deed)
    return now


def run_between(calendar, one, two):
    """Return the run that leads from the tree one to the tree two, group by group."""
    made_tree(calendar, one)
    made_tree(calendar, two)
    now = one
    run = []
    for d, row in enumerate(two):
        taken = []
        for group in _greatest_first(row):
            for deed in _deeds_to(d, _first_but(now[d], taken), group):
                now = exchanged(now, deed)
                run.append(deed)
            taken.append(group)
    return tuple(run)


def _greatest_first(row):
    """Return the groups in the order of sizes falling, then ascending."""
    return sorted(row, key=lambda group: (-len(group), group))


def _first_but(row, taken):
    """Return the greatest group that is not taken, the first one of several."""
    return [group for group in _greatest_first(row) if group not in taken][0]


def _deeds_to(d, have, want):
    """Return the deeds that put the names of want into the group have of day d."""
    surplus = [name for name in have if name not in want]
    missing = [name for name in want if name not in have]
    return [("change", d, min(a, b), max(a, b)) for a, b in zip(surplus, missing)]
