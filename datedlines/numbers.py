"""How many trees a calendar has."""

from datedlines.alive import alive
from datedlines.calendars import days_many
from datedlines.patterns import ways


def size(calendar):
    """Return the number of trees of the calendar."""
    return ways_ahead(calendar, days_many(calendar))


def ways_ahead(calendar, d):
    """Return how many rows there are for the days ahead of day d together."""
    product = 1
    for many in ways_of_days(calendar)[:d]:
        product = product * many
    return product


def ways_of_days(calendar):
    """Return for each day how many rows there are."""
    return [ways(alive(calendar, d), pattern) for d, pattern in enumerate(calendar.days)]
