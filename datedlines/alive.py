"""How many lines are alive at the moments of a calendar."""

from datedlines.calendars import days_many
from datedlines.checks import ask_moment
from datedlines.patterns import less


def alive(calendar, d):
    """Return how many lines are alive at moment d, newcomers among them."""
    ask_moment(d, days_many(calendar))
    born = [moment for moment in calendar.born if moment <= d]
    return len(born) - sum([less(pattern) for pattern in calendar.days[:d]])


def behind(calendar, d):
    """Return how many lines are alive right after day d, without newcomers."""
    ask_moment(d, days_many(calendar) - 1)
    return alive(calendar, d) - less(calendar.days[d])


def ends(calendar):
    """Return the number of lines at the end."""
    return alive(calendar, days_many(calendar))
