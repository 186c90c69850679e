"""How many trees a calendar has."""

from datedlines.alive import alive
from datedlines.patterns import ways


def size(calendar):
    """Return the number of trees of the calendar."""
    trees = 1
    for many in ways_of_days(calendar):
        trees = trees * many
    return trees


def ways_of_days(calendar):
    """Return for each day how many rows there are."""
    return [ways(alive(calendar, d), pattern) for d, pattern in enumerate(calendar.days)]
