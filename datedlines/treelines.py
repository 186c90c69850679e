"""The lines of a tree at its moments."""

from datedlines.calendars import days_many, newborn
from datedlines.checks import ask_born_leaf, ask_moment
from datedlines.trees import made_tree


def lines(calendar, tree, d):
    """Return the lines alive at moment d, as ascending tuples of leaves, ascending by name."""
    made_tree(calendar, tree)
    ask_moment(d, days_many(calendar))
    return lines_at(calendar, tree, d)


def behind_lines(calendar, tree, d):
    """Return the lines right after day d, without newcomers."""
    made_tree(calendar, tree)
    ask_moment(d, days_many(calendar) - 1)
    return joined(lines_at(calendar, tree, d), tree[d])


def bough_of(calendar, tree, d, x):
    """Return the line at moment d that has the leaf x."""
    made_tree(calendar, tree)
    ask_moment(d, days_many(calendar))
    ask_born_leaf(calendar, x, d)
    return line_with(lines_at(calendar, tree, d), x)


def line_with(found, x):
    """Return the one of the lines that has the leaf x, None if there is none."""
    for line in found:
        if x in line:
            return line
    return None


def lines_at(calendar, tree, d):
    """Return what lines returns, for a tree that has been asked already."""
    found = with_newborn((), calendar, 0)
    for e in range(d):
        found = with_newborn(joined(found, tree[e]), calendar, e + 1)
    return found


def with_newborn(found, calendar, d):
    """Return the lines and those of the leaves that are born d, ascending by name."""
    return tuple(sorted(list(found) + [(x,) for x in newborn(calendar, d)]))


def joined(found, row):
    """Return what the lines have become when the groups of the row have met."""
    line_of = {line[0]: line for line in found}
    for group in row:
        leaves = []
        for name in group:
            leaves.extend(line_of[name])
            del line_of[name]
        line_of[group[0]] = tuple(sorted(leaves))
    return tuple([line_of[name] for name in sorted(line_of)])
