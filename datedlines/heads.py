"""Heads: the rows of the first days of a tree."""

from datedlines.calendars import days_many
from datedlines.checks import ask_moment
from datedlines.errors import BadSize
from datedlines.nthtree import head_rank
from datedlines.numbers import size, ways_ahead
from datedlines.trees import ask_rows


def headed(calendar, rows):
    """Return the least number of a tree that begins with these rows, and how many trees do."""
    ask_head(calendar, rows)
    many = size(calendar) // heads_many(calendar, len(rows))
    return (head_rank(calendar, rows) * many, many)


def ask_head(calendar, rows):
    """Raise BadSize or BadRow unless the rows are a head of the calendar."""
    if len(rows) > days_many(calendar):
        raise BadSize(len(rows))
    ask_rows(calendar, rows)


def heads_many(calendar, d):
    """Return the number of heads of d rows."""
    ask_moment(d, days_many(calendar))
    return ways_ahead(calendar, d)
