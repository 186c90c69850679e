"""Polynomials in u and v: ascending triples (i, j, number) for number * u ** i * v ** j."""

from math import comb

from datedlines.checks import ask_size
from datedlines.errors import TooFew
from datedlines.patterns import met

ONE = ((0, 0, 1),)
SINGLE_LINE = ((0, 0, 1), (1, 1, 1))


def poly_times(one, two):
    """Return the product of two polynomials."""
    found = {}
    for i, j, number in one:
        for above_i, above_j, other in two:
            place = (i + above_i, j + above_j)
            found[place] = found.get(place, 0) + number * other
    return tuple([(i, j, found[(i, j)]) for i, j in sorted(found) if found[(i, j)] != 0])


def touched(k, pattern):
    """Return the polynomial that tells how many lines i given lines are after the day."""
    _ask_day(k, pattern)
    return _times_groups(k, pattern, [_touched_group(s) for s in pattern])


def whole(k, pattern):
    """Return the polynomial that tells how many lines i given lines are if they met no other line."""
    _ask_day(k, pattern)
    return _times_groups(k, pattern, [((0, 0, 1), (s, 1, 1)) for s in pattern])


def _ask_day(k, pattern):
    """Raise what touched and whole raise."""
    ask_size(k)
    if met(pattern) > k:
        raise TooFew(k)


def _touched_group(s):
    """Return 1 + v * ((1 + u) ** s - 1)."""
    return ONE + tuple([(i, 1, comb(s, i)) for i in range(1, s + 1)])


def _times_groups(k, pattern, groups):
    """Return the product of the groups' polynomials and of those of the lines that do not meet."""
    result = ONE
    for group in groups:
        result = poly_times(result, group)
    for _ in range(k - met(pattern)):
        result = poly_times(result, SINGLE_LINE)
    return result
