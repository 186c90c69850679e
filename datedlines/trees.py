"""Trees of a calendar: a row of groups for each day."""

from datedlines.calendars import days_many, newborn
from datedlines.checks import is_number, is_rising
from datedlines.errors import BadRow, BadSize


def made_tree(calendar, rows):
    """Return the rows if they are a tree of the calendar."""
    if len(rows) != days_many(calendar):
        raise BadSize(len(rows))
    ask_rows(calendar, rows)
    return rows


def ask_rows(calendar, rows):
    """Raise BadRow for the first row that is not one of a tree, with those before it."""
    d = first_bad_row(calendar, rows)
    if d is not None:
        raise BadRow(d)


def is_tree(calendar, thing):
    """Tell whether the thing is a tree of the calendar."""
    if not isinstance(thing, tuple) or len(thing) != days_many(calendar):
        return False
    return first_bad_row(calendar, thing) is None


def first_bad_row(calendar, rows):
    """Return the index of the first row that is not one of a tree, with those before it, or None."""
    names = newborn(calendar, 0)
    for d, row in enumerate(rows):
        if not is_row(names, calendar.days[d], row):
            return d
        names = names_after(calendar, d, names, row)
    return None


def is_row(names, pattern, row):
    """Tell whether the row has groups of these names with the sizes of the pattern, in order."""
    return are_groups(names, row) and sizes_of(row) == pattern


def are_groups(names, row):
    """Tell whether the row is a tuple of groups of these names, in order, that have no name in common."""
    if not isinstance(row, tuple) or not all([is_group(names, group) for group in row]):
        return False
    taken = [name for group in row for name in group]
    return is_rising(row) and len(set(taken)) == len(taken)


def sizes_of(row):
    """Return the sizes of the groups of a row, falling."""
    return tuple(sorted([len(group) for group in row], reverse=True))


def is_group(names, group):
    """Tell whether the group is a tuple of some of these names, ascending."""
    if not isinstance(group, tuple):
        return False
    return all([is_number(name) and name in names for name in group]) and is_rising(group)


def names_after(calendar, d, names, row):
    """Return the names at moment d + 1, where names are those at moment d and row that of day d."""
    gone = [name for group in row for name in group[1:]]
    left = [name for name in names if name not in gone]
    return tuple(sorted(left + list(newborn(calendar, d + 1))))


def names_at(calendar, tree, d):
    """Return the names of the lines of a tree that are alive at moment d, ascending."""
    names = newborn(calendar, 0)
    for e in range(d):
        names = names_after(calendar, e, names, tree[e])
    return names
