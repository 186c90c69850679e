"""Calendars of depths, and the depths of a tree."""

from datedlines.calendars import Calendar, leaves_many
from datedlines.depths import ask_depths, ask_lines
from datedlines.errors import NotWhole
from datedlines.treeroads import joints


def depth_calendar(depths, r):
    """Return the calendar on which the deepest leaves come first and all lines meet each day, in groups of r."""
    ask_depths(depths)
    ask_lines(r)
    deepest = max(depths)
    days = []
    lines = 0
    for h in range(deepest, 0, -1):
        lines += depths.count(h)
        if lines % r != 0:
            raise NotWhole(h)
        lines = lines // r
        days.append((r,) * lines)
    if lines + depths.count(0) != 1:
        raise NotWhole(0)
    return Calendar(tuple([deepest - h for h in depths]), tuple(days))


def depths_of(calendar, tree):
    """Return for each leaf how many joints of the tree have it."""
    found = [leaves for _, _, leaves in joints(calendar, tree)]
    return tuple([len([leaves for leaves in found if x in leaves]) for x in range(leaves_many(calendar))])
