"""Families: sets of which each two have no common leaf, or one lies within the other."""

from datedlines.checks import is_from_to, is_rising
from datedlines.errors import BadFamily, TooMany
from datedlines.treeroads import joints

MOST_SETS = 4


def together(calendar, tree, family):
    """Tell whether each set of the family is a line behind some day of the tree."""
    # A set of two leaves or more is a line behind some day just if it is the new line of a joint.
    found = [leaves for _, _, leaves in joints(calendar, tree)]
    ask_family(calendar, family)
    return all([some in found for some in family])


def ask_family(calendar, family):
    """Raise TooMany or BadFamily unless the family is one of leaves of the calendar."""
    if not 1 <= len(family) <= MOST_SETS:
        raise TooMany(len(family))
    for i, some in enumerate(family):
        if not _is_set_of_several(calendar, some) or not all([_can_stand_beside(some, one) for one in family[:i]]):
            raise BadFamily(i)


def _is_set_of_several(calendar, some):
    """Tell whether some is a set of at least two leaves of the calendar."""
    last = len(calendar.born) - 1
    return len(some) >= 2 and is_rising(some) and all([is_from_to(x, 0, last) for x in some])


def _can_stand_beside(some, one):
    """Tell whether two sets are different, and have no common leaf, or one lies within the other."""
    common = len([x for x in some if x in one])
    return some != one and common in (0, len(some), len(one))
