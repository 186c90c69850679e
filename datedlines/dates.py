"""Dates of the days and of the births of a calendar."""

from datedlines.calendars import days_many, leaves_many
from datedlines.errors import BadDates

GREATEST = 1000000000000


def made_dates(calendar, dates):
    """Return the dates if they are dates of the calendar."""
    days_at, born_at = dates
    if len(days_at) != days_many(calendar):
        raise BadDates((2, len(days_at)))
    if len(born_at) != leaves_many(calendar):
        raise BadDates((3, len(born_at)))
    for d, date in enumerate(days_at):
        if abs(date) > GREATEST or (d > 0 and date <= days_at[d - 1]):
            raise BadDates((0, d))
    for x, date in enumerate(born_at):
        if abs(date) > GREATEST or not _is_ahead_of_day(days_at, calendar.born[x], date):
            raise BadDates((1, x))
    return dates


def _is_ahead_of_day(days_at, d, date):
    """Tell whether the date is above that of the day before d, and at most that of d, where there are such days."""
    if d > 0 and date <= days_at[d - 1]:
        return False
    return d == len(days_at) or date <= days_at[d]
