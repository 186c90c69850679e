"""What is left of calendars and trees from a moment on, or of one line."""

from datedlines.alive import alive
from datedlines.calendars import Calendar, births_among, days_many
from datedlines.checks import ask_born_leaf, ask_moment
from datedlines.treelines import line_with, lines_at
from datedlines.treelooks import rewritten
from datedlines.trees import made_tree, names_at, sizes_of


def rest(calendar, d):
    """Return the calendar from day d on, whose first leaves are the lines alive ahead of it."""
    ask_moment(d, days_many(calendar))
    later = [calendar.born[x] - d for x in _born_later(calendar, d)]
    return Calendar((0,) * alive(calendar, d) + tuple(later), calendar.days[d:])


def rest_tree(calendar, tree, d):
    """Return the tree of rest(calendar, d) that has the groups of the tree's days from d on."""
    made_tree(calendar, tree)
    ask_moment(d, days_many(calendar))
    return rewritten(tree[d:], {name: x for x, name in enumerate(rest_names(calendar, tree, d))})


def rest_names(calendar, rows, d):
    """Return the names of the lines and of the later leaves for which the leaves of the rest stand."""
    return list(names_at(calendar, rows, d)) + _born_later(calendar, d)


def _born_later(calendar, d):
    """Return the leaves that are born after moment d, ascending."""
    return [x for x, moment in enumerate(calendar.born) if moment > d]


def bough_tree(calendar, tree, d, x):
    """Return the calendar and the tree of the line with the leaf x ahead of day d."""
    made_tree(calendar, tree)
    ask_moment(d, days_many(calendar))
    ask_born_leaf(calendar, x, d)
    bough = line_with(lines_at(calendar, tree, d), x)
    # A group ahead of day d that has a name of a leaf of the line lies within the line.
    rows = [tuple([group for group in row if group[0] in bough]) for row in tree[:d]]
    days = [e for e, row in enumerate(rows) if len(row) > 0]
    small = Calendar(births_among(calendar, bough, days), tuple([sizes_of(rows[e]) for e in days]))
    return small, rewritten([rows[e] for e in days], {leaf: i for i, leaf in enumerate(bough)})
