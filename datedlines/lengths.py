"""The lengths of all lines together."""

from datedlines.alive import behind
from datedlines.calendars import days_many, newborn
from datedlines.dates import made_dates


def total_length(calendar, dates):
    """Return the sum of the lengths of all leaves and of all lines that come about."""
    days_at, born_at = made_dates(calendar, dates)
    total = 0
    for d in range(days_many(calendar)):
        if d > 0:
            total += behind(calendar, d - 1) * (days_at[d] - days_at[d - 1])
        total += sum([days_at[d] - born_at[x] for x in newborn(calendar, d)])
    return total
