"""Trees of which the leaves of a set alone are left."""

from math import perm

from datedlines.calendars import Calendar, births_among
from datedlines.checks import ask_set, ask_size, is_falling, is_number
from datedlines.errors import BadSet, TooFew
from datedlines.patterns import ask_pattern, met
from datedlines.shares import share
from datedlines.trees import made_tree, sizes_of


def placed(k, pattern, blocks):
    """Return the chance that lines in blocks of these sizes are just these blocks behind a day on k lines."""
    ask_size(k)
    ask_pattern(pattern)
    if not all([is_number(b) and b >= 1 for b in blocks]) or not is_falling(blocks):
        raise BadSet(0)
    lines = sum(blocks)
    if met(pattern) > k or lines > k:
        raise TooFew(k)
    return share(_ways_to_stand(k, pattern, blocks), perm(k, lines))


def _ways_to_stand(k, pattern, blocks):
    """Return in how many ways the lines stand in k places so that they become just these blocks."""
    # Blocks that stand in no group yet, as a falling tuple, and the ways to put the others into the groups so far.
    now = {blocks: 1}
    for s in pattern:
        longer = {left: now[left] for left in now}
        for left in now:
            for i, b in enumerate(left):
                after = left[:i] + left[i + 1:]
                longer[after] = longer.get(after, 0) + now[left] * perm(s, b)
        now = longer
    single = k - met(pattern)
    return sum([now[left] * perm(single, len(left)) for left in now if sum(left) == len(left)])


def cut(calendar, tree, some):
    """Return what is left of the tree for the leaves of a set: a calendar, its tree, and the days that are left."""
    made_tree(calendar, tree)
    ask_set(calendar, some)
    # The new name of each line that has leaves of the set, under its old name.
    name_of = {x: i for i, x in enumerate(some)}
    days = []
    rows = []
    for d, row in enumerate(tree):
        groups = []
        for group in row:
            names = sorted([name_of.pop(name) for name in group if name in name_of])
            if len(names) > 0:
                name_of[group[0]] = names[0]
            if len(names) > 1:
                groups.append(tuple(names))
        if len(groups) > 0:
            days.append(d)
            rows.append(tuple(sorted(groups)))
    small = Calendar(births_among(calendar, some, days), tuple([sizes_of(row) for row in rows]))
    return small, tuple(rows), tuple(days)
