"""Calendars as texts."""

from datedlines.calendars import MOST_DAYS, made_calendar
from datedlines.checks import MOST_LEAVES
from datedlines.errors import BadText, TooFew
from datedlines.patterns import is_pattern
from datedlines.rowwords import numbers_behind, row_of


def calendar_text(calendar):
    """Return the text of the calendar."""
    return "\n".join([row_of("born", calendar.born)] + [row_of("day", pattern) for pattern in calendar.days])


def calendar_of(text):
    """Return the calendar that has this text."""
    rows = text.split("\n")
    born = numbers_behind("born", rows[0])
    # Each row behind the first one counts as a day here, even if it is bad or one too many.
    if born is None or not 1 <= len(born) <= MOST_LEAVES or max(born) > len(rows) - 1:
        raise BadText(0)
    days = []
    for i in range(1, len(rows)):
        pattern = numbers_behind("day", rows[i])
        if i > MOST_DAYS or pattern == () or not is_pattern(pattern):
            raise BadText(i)
        days.append(pattern)
    try:
        return made_calendar(born, tuple(days))
    except TooFew:
        raise BadText(len(rows)) from None
