"""Trees that are drawn by digits."""

from datedlines.errors import BadCount
from datedlines.nthtree import nth_tree
from datedlines.numbers import size

FACTOR = 1000003


def drawn(calendar, digits):
    """Return the tree that the digits draw."""
    if len(digits) == 0:
        raise BadCount(0)
    trees = size(calendar)
    r = 0
    for digit in digits:
        r = (r * FACTOR + digit) % trees
    return nth_tree(calendar, r)
