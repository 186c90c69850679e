"""All trees of a calendar, and in how many rows two of them differ."""

from datedlines.calendars import newborn
from datedlines.errors import TooMany
from datedlines.nthgroups import nth_groups
from datedlines.numbers import size, ways_of_days
from datedlines.trees import made_tree, names_after

MOST_TREES = 2000


def class_of(calendar):
    """Return all trees of the calendar, in the order of their numbers."""
    ask_trees(calendar)
    begun = [((), newborn(calendar, 0))]
    for d, many in enumerate(ways_of_days(calendar)):
        longer = []
        for rows, names in begun:
            for k in range(many):
                row = nth_groups(names, calendar.days[d], k)
                longer.append((rows + (row,), names_after(calendar, d, names, row)))
        begun = longer
    return tuple([rows for rows, _ in begun])


def ask_trees(calendar):
    """Raise TooMany if the calendar has more trees than are ever listed."""
    if size(calendar) > MOST_TREES:
        raise TooMany(size(calendar))


def unlike_days(calendar, one, two):
    """Return how many rows of two trees differ."""
    made_tree(calendar, one)
    made_tree(calendar, two)
    return len([d for d, row in enumerate(one) if row != two[d]])
