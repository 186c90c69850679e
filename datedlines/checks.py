"""Checks of numbers and leaves that several files need."""

from datedlines.errors import BadLeaf, BadMoment, BadSet, BadSize

MOST_LEAVES = 12


def is_number(thing):
    """Tell whether the thing is an int that is neither True nor False."""
    return isinstance(thing, int) and not isinstance(thing, bool)


def is_from_to(thing, low, high):
    """Tell whether the thing is a number from low to high."""
    return is_number(thing) and low <= thing <= high


def is_rising(names):
    """Tell whether each of these numbers is above the one before it."""
    return all([one < two for one, two in zip(names, names[1:])])


def is_falling(sizes):
    """Tell whether none of these numbers is above the one before it."""
    return all([one >= two for one, two in zip(sizes, sizes[1:])])


def ask_size(k):
    """Raise BadSize unless k is a number of things, from 0 to 12."""
    if not is_from_to(k, 0, MOST_LEAVES):
        raise BadSize(k)


def ask_leaves_many(n):
    """Raise BadSize unless n is a number of leaves, from 1 to 12."""
    if not is_from_to(n, 1, MOST_LEAVES):
        raise BadSize(n)


def ask_moment(d, last):
    """Raise BadMoment unless d is a moment from 0 to the last one that may be asked for."""
    if not is_from_to(d, 0, last):
        raise BadMoment(d)


def ask_leaf(calendar, x):
    """Raise BadLeaf unless x is a leaf of the calendar."""
    if not is_from_to(x, 0, len(calendar.born) - 1):
        raise BadLeaf(x)


def ask_born_leaf(calendar, x, d):
    """Raise BadLeaf unless x is a leaf that is born by moment d."""
    ask_leaf(calendar, x)
    if calendar.born[x] > d:
        raise BadLeaf(x)


def ask_two_leaves(calendar, x, y):
    """Raise BadLeaf unless both are leaves of the calendar, BadSet if they are one leaf."""
    ask_leaf(calendar, x)
    ask_leaf(calendar, y)
    if x == y:
        raise BadSet(x)


def ask_set(calendar, some):
    """Raise BadSet unless some is a set of leaves of the calendar."""
    if len(some) == 0:
        raise BadSet(0)
    for i, x in enumerate(some):
        if not is_from_to(x, 0, len(calendar.born) - 1) or (i > 0 and x <= some[i - 1]):
            raise BadSet(i)


def ask_set_of_several(calendar, some):
    """Raise BadSet unless some is a set of at least two leaves of the calendar."""
    ask_set(calendar, some)
    if len(some) == 1:
        raise BadSet(1)
