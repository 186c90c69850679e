"""All calendars in which k leaves are born 0 and one line ends, by their numbers.

They stand in ascending order by their tuples of days. Behind a first pattern there is a calendar for each one of
as many leaves as there are lines then.
"""

from datedlines.alive import ends
from datedlines.calendars import Calendar, leaves_many
from datedlines.checks import ask_leaves_many
from datedlines.errors import BadCount, Unlike
from datedlines.patterns import less, patterns


def calendars_count(k):
    """Return how many such calendars of k leaves there are."""
    ask_leaves_many(k)
    return _counts_up_to(k)[k]


def _counts_up_to(k):
    """Return the numbers of calendars of 0 to k leaves; 0 for no leaves."""
    counts = [0, 1]
    for lines in range(2, k + 1):
        counts.append(sum([counts[lines - less(pattern)] for pattern in patterns(lines)]))
    return counts


def nth_calendar(k, i):
    """Return the calendar of k leaves with the index i."""
    ask_leaves_many(k)
    counts = _counts_up_to(k)
    if not 0 <= i < counts[k]:
        raise BadCount(i)
    left = i
    lines = k
    days = []
    while lines > 1:
        for pattern in patterns(lines):
            many = counts[lines - less(pattern)]
            if left < many:
                break
            left = left - many
        days.append(pattern)
        lines = lines - less(pattern)
    return Calendar((0,) * k, tuple(days))


def calendar_rank(calendar):
    """Return the index of the calendar among those of as many leaves."""
    if any([moment > 0 for moment in calendar.born]) or ends(calendar) != 1:
        raise Unlike(0)
    lines = leaves_many(calendar)
    counts = _counts_up_to(lines)
    rank = 0
    for day in calendar.days:
        rank += sum([counts[lines - less(pattern)] for pattern in patterns(lines) if pattern < day])
        lines = lines - less(day)
    return rank
