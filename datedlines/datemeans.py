"""At which dates leaves meet in the mean."""

from datedlines.calendars import days_many, leaves_many
from datedlines.dates import made_dates
from datedlines.meetings import meeting
from datedlines.shares import mean, minus, plus, share, times


def meeting_mean(calendar, dates, x, y):
    """Return the mean date at which two leaves meet, over the trees in which they do; None if they never do."""
    days_at, _ = made_dates(calendar, dates)
    total = (0, 1)
    ever = (0, 1)
    for d, one in meeting(calendar, x, y):
        if d < days_many(calendar):
            total = plus(total, times(one, (days_at[d], 1)))
            ever = plus(ever, one)
    if ever == (0, 1):
        return None
    return times(total, share(ever[1], ever[0]))


def way_mean(calendar, dates, x, y):
    """Return the mean, over the same trees, of the time from both births to the meeting; None if they never meet."""
    middle = meeting_mean(calendar, dates, x, y)
    if middle is None:
        return None
    _, born_at = dates
    return minus(times((2, 1), middle), (born_at[x] + born_at[y], 1))


def pairs_mean(calendar, dates):
    """Return the mean of meeting_mean over all pairs of leaves that can meet, None if there is none."""
    made_dates(calendar, dates)
    found = []
    for y in range(leaves_many(calendar)):
        for x in range(y):
            middle = meeting_mean(calendar, dates, x, y)
            if middle is not None:
                found.append(middle)
    if len(found) == 0:
        return None
    return mean(found)
