"""Rows of groups by their numbers.

A row is put together name by name. At each step the ways to go on, in ascending order, are passed over until
the right one is found; the number of rows of each way is counted, so no rows are listed.
"""

from math import comb

from datedlines.checks import MOST_LEAVES
from datedlines.errors import BadCount, BadNames, BadRow
from datedlines.patterns import ask_pattern, ways
from datedlines.trees import is_row


def nth_groups(names, pattern, k):
    """Return the row with the index k of all rows of these names with the sizes of the pattern."""
    _ask_names(names)
    ask_pattern(pattern)
    if not 0 <= k < ways(len(names), pattern):
        raise BadCount(k)
    row = []
    free = names
    sizes = pattern
    left = k
    while len(sizes) > 0:
        group, left = _nth_group(free, sizes, left)
        row.append(group)
        free = _behind_group(free, group)
        sizes = _without(sizes, len(group))
    return tuple(row)


def groups_rank(names, pattern, row):
    """Return the index of the row."""
    _ask_names(names)
    ask_pattern(pattern)
    if not is_row(names, pattern, row):
        raise BadRow(0)
    rank = 0
    free = names
    sizes = pattern
    for group in row:
        rank = rank + _group_rank(free, sizes, group)
        free = _behind_group(free, group)
        sizes = _without(sizes, len(group))
    return rank


def _ask_names(names):
    """Raise BadNames unless there are at most twelve names, each above the one before it."""
    for i, name in enumerate(names):
        if i >= MOST_LEAVES or (i > 0 and name <= names[i - 1]):
            raise BadNames(i)


def _behind_group(free, group):
    """Return the names that may stand in the groups behind this one."""
    return tuple([name for name in free if name > group[0] and name not in group])


def _without(sizes, s):
    """Return the sizes without one that is s."""
    at = sizes.index(s)
    return sizes[:at] + sizes[at + 1:]


def _nth_group(free, sizes, k):
    """Return the first group of the row with the index k, and the row's index among those that begin so."""
    group = ()
    left = k
    while True:
        for step, many in _steps(free, sizes, group):
            if left < many:
                break
            left = left - many
        if step == group:
            return group, left
        group = step


def _group_rank(free, sizes, group):
    """Return how many rows stand before all those whose first group is this one."""
    rank = 0
    for t in range(len(group)):
        for step, many in _steps(free, sizes, group[:t]):
            if step == group[:t + 1]:
                break
            rank = rank + many
    return rank


def _steps(free, sizes, group):
    """Return pairs, ascending: the first group ended here or begun with one name more, how many rows go on so."""
    found = []
    if len(group) in sizes:
        found.append((group, ways(len(_behind_group(free, group)), _without(sizes, len(group)))))
    for name in free:
        if group == () or name > group[-1]:
            longer = group + (name,)
            found.append((longer, _rows_many(free, sizes, longer)))
    return found


def _rows_many(free, sizes, group):
    """Return how many rows have a first group that begins with these names."""
    later = len([name for name in free if name > group[-1]])
    behind = len(_behind_group(free, group))
    many = 0
    for s in sorted(set(sizes)):
        added = s - len(group)
        if 0 <= added <= later:
            many = many + comb(later, added) * ways(behind - added, _without(sizes, s))
    return many
