"""Tables of the days on which the leaves of a set meet."""

from datedlines.checks import ask_set_of_several
from datedlines.treeroads import joints


def table_of(calendar, tree, some):
    """Return the table of the days on which each two leaves of the set first stand in one line."""
    found = joints(calendar, tree)
    ask_set_of_several(calendar, some)
    rows = []
    for i, x in enumerate(some[:-1]):
        rows.append(tuple([_first_day(found, x, y) for y in some[i + 1:]]))
    return tuple(rows)


def _first_day(found, x, y):
    """Return the day of the first joint that has both leaves, None if there is none."""
    for d, _, leaves in found:
        if x in leaves and y in leaves:
            return d
    return None
