"""A deed that is done."""

from datedlines.calendars import days_many
from datedlines.checks import is_from_to, is_number
from datedlines.errors import BadDeed
from datedlines.treelooks import rewritten
from datedlines.trees import is_group, made_tree, names_at


def done(calendar, tree, deed):
    """Return the tree after the deed."""
    made_tree(calendar, tree)
    which = wrong_with(calendar, tree, deed)
    if which is not None:
        raise BadDeed(which)
    return exchanged(tree, deed)


def wrong_with(calendar, tree, deed):
    """Return the number of what is wrong with a deed on this tree, None if it can be done."""
    if not is_written(deed):
        return 0
    _, d, a, b = deed
    return wrong_with_change(calendar, tree, d, a, b)


def wrong_with_change(calendar, tree, d, a, b):
    """Return the number of what is wrong with a change of this day and these names, None if it can be done."""
    if not is_from_to(d, 0, days_many(calendar) - 1):
        return 1
    if not is_group(names_at(calendar, tree, d), (a, b)):
        return 2
    return None


def is_written(deed):
    """Tell whether the deed is a tuple of "change" and three numbers."""
    if not isinstance(deed, tuple) or len(deed) != 4 or deed[0] != "change":
        return False
    return all([is_number(part) for part in deed[1:]])


def exchanged(tree, deed):
    """Return the tree after a deed that can be done on it."""
    _, d, a, b = deed
    return tree[:d] + rewritten(tree[d:], {a: b, b: a})
