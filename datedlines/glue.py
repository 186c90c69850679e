"""Heads and trees of what is left, put together."""

from datedlines.calendars import days_many
from datedlines.errors import BadRow, BadSize
from datedlines.heads import ask_head
from datedlines.rests import rest, rest_names
from datedlines.treelooks import rewritten
from datedlines.trees import first_bad_row


def glued(calendar, rows, later):
    """Return the tree that begins with these rows and goes on as a tree of what is left behind them."""
    ask_head(calendar, rows)
    left = rest(calendar, len(rows))
    if len(later) != days_many(left):
        raise BadSize(len(later))
    i = first_bad_row(left, later)
    if i is not None:
        raise BadRow((i,))
    names = rest_names(calendar, rows, len(rows))
    return rows + rewritten(later, {x: name for x, name in enumerate(names)})
