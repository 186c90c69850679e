"""Trees as texts."""

from datedlines.calendars import days_many
from datedlines.errors import BadText
from datedlines.rowwords import groups_behind, groups_row, rows_of
from datedlines.trees import first_bad_row, made_tree


def tree_text(calendar, tree):
    """Return the text of the tree."""
    made_tree(calendar, tree)
    return "\n".join([groups_row("meet", row) for row in tree])


def tree_of(calendar, text):
    """Return the tree of the calendar that has this text."""
    rows = rows_of(text)
    many = days_many(calendar)
    tree = tuple([groups_behind("meet", row) for row in rows[:many]])
    i = first_bad_row(calendar, tree)
    if i is not None:
        raise BadText(i)
    if len(rows) != many:
        # The first row that is missing, or the first one too many.
        raise BadText(len(tree))
    return tree
