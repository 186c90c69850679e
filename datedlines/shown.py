"""What a table of meeting days shows of a tree."""

from itertools import combinations

from datedlines.calendars import Calendar, births_among, days_many
from datedlines.checks import ask_set_of_several, is_from_to
from datedlines.cutshares import cut_count
from datedlines.errors import BadSize, BadTable
from datedlines.trees import sizes_of


def shown(calendar, some, table):
    """Return the calendar, its tree and the days that each tree with this table has as its cut to the set."""
    _ask_table(calendar, some, table)
    days = tuple(sorted(set([d for row in table for d in row if d is not None])))
    names = list(range(len(some)))
    tree = []
    for d in days:
        row = _groups_on(table, names, d)
        gone = [name for group in row for name in group[1:]]
        names = [name for name in names if name not in gone]
        tree.append(row)
    small = Calendar(births_among(calendar, some, days), tuple([sizes_of(row) for row in tree]))
    return small, tuple(tree), days


def shown_count(calendar, some, table):
    """Return how many trees of the calendar have this table."""
    small, _, days = shown(calendar, some, table)
    return cut_count(calendar, some, small, days)


def _ask_table(calendar, some, table):
    """Raise what is wrong with the set or with its table."""
    ask_set_of_several(calendar, some)
    if len(table) != len(some) - 1:
        raise BadSize(len(table))
    for i, row in enumerate(table):
        if len(row) != len(table) - i:
            raise BadTable((i,))
    for i, j in combinations(range(len(some)), 2):
        if not _can_meet_on(calendar, some[i], some[j], _entry(table, i, j)):
            raise BadTable((i, j))
    for i, j, k in combinations(range(len(some)), 3):
        if not _agree(calendar, [_entry(table, i, j), _entry(table, i, k), _entry(table, j, k)]):
            raise BadTable((i, j, k))


def _entry(table, i, j):
    """Return the entry of the leaves with the indexes i < j."""
    return table[i][j - i - 1]


def _can_meet_on(calendar, x, y, d):
    """Tell whether d is None or a day that lies ahead of neither birth."""
    return d is None or is_from_to(d, max(calendar.born[x], calendar.born[y]), days_many(calendar) - 1)


def _agree(calendar, entries):
    """Tell whether the greatest two of three entries are equal, with None as the greatest of all."""
    _, middle, greatest = sorted([days_many(calendar) if d is None else d for d in entries])
    return middle == greatest


def _groups_on(table, names, d):
    """Return the groups in which lines of these names meet on the day d."""
    groups = []
    taken = []
    for i, name in enumerate(names):
        if name not in taken:
            others = [other for other in names[i + 1:] if _entry(table, name, other) == d]
            taken.extend(others)
            if len(others) > 0:
                groups.append((name,) + tuple(others))
    return tuple(groups)
