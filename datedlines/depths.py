"""Rows of depths that are those of the leaves of a tree whose joints all have r lines."""

from datedlines.checks import MOST_LEAVES, ask_leaves_many, is_from_to
from datedlines.errors import BadCount, BadDepth, BadSize
from datedlines.shares import plus, share

GREATEST_DEPTH = 11
LEAST_LINES = 2
MOST_LINES = 12


def kraft(depths, r):
    """Return the sum of 1 / r ** h over the depths h."""
    ask_depths(depths)
    ask_lines(r)
    total = (0, 1)
    for h in depths:
        total = plus(total, share(1, _power(r, h)))
    return total


def ask_depths(depths):
    """Raise BadSize or BadDepth unless these are 1 to 12 depths."""
    if not 1 <= len(depths) <= MOST_LEAVES:
        raise BadSize(len(depths))
    for i, h in enumerate(depths):
        if not is_from_to(h, 0, GREATEST_DEPTH):
            raise BadDepth(i)


def ask_lines(r):
    """Raise BadCount unless r is a number of lines that may meet in each group."""
    if not is_from_to(r, LEAST_LINES, MOST_LINES):
        raise BadCount(r)


def _power(r, h):
    """Return r ** h."""
    power = 1
    for _ in range(h):
        power = power * r
    return power


def depth_rows(n, r):
    """Return all rows of n depths that are whole for r and never rise, ascending."""
    ask_leaves_many(n)
    ask_lines(r)
    return tuple(sorted(_rows_below(1, n, 0, r)))


def row_count(n, r):
    """Return the number of these rows."""
    ask_leaves_many(n)
    ask_lines(r)
    return _rows_many(1, n, r, {})


def _ends(lines, n, r):
    """Return how many of the lines of a level may be leaves, if all of them have n leaves together.

    The others have r lines each on the next level, and each of these has a leaf at least.
    """
    return [leaves for leaves in range(min(lines, n) + 1) if leaves + (lines - leaves) * r <= n]


def _rows_below(lines, n, level, r):
    """Return the rows of the depths of n leaves that hang on so many lines of a level."""
    if lines == 0:
        return [()] if n == 0 else []
    found = []
    for leaves in _ends(lines, n, r):
        for deeper in _rows_below((lines - leaves) * r, n - leaves, level + 1, r):
            found.append(deeper + (level,) * leaves)
    return found


def _rows_many(lines, n, r, known):
    """Return the number of rows of the depths of n leaves that hang on so many lines."""
    if lines == 0:
        return 1 if n == 0 else 0
    if (lines, n) not in known:
        many = [_rows_many((lines - leaves) * r, n - leaves, r, known) for leaves in _ends(lines, n, r)]
        known[(lines, n)] = sum(many)
    return known[(lines, n)]
