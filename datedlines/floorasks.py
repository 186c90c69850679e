"""What a floor is asked."""

from datedlines.errors import Unlike
from datedlines.numbers import size
from datedlines.runs import run_between


def can_go_home(floor):
    """Tell whether the calendar of the mark is the one that stands."""
    calendar, _ = floor.marked()
    return calendar == floor.calendar()


def way_home(floor):
    """Return the run from the tree that stands to the tree of the mark."""
    calendar, tree = floor.marked()
    for d, pattern in enumerate(floor.calendar().days):
        if pattern != calendar.days[d]:
            raise Unlike(d)
    return run_between(calendar, floor.tree(), tree)


def kin(floor):
    """Return the number of trees of the calendar that stands."""
    return size(floor.calendar())
