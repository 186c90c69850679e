"""Shares: fractions (n, d) in lowest terms with d >= 1."""

from math import gcd

from datedlines.errors import BadCount


def share(n, d):
    """Return the share n / d."""
    if d == 0:
        raise BadCount(d)
    common = gcd(n, d)
    if d < 0:
        common = -common
    return (n // common, d // common)


def plus(one, two):
    """Return the sum of two shares."""
    return share(one[0] * two[1] + two[0] * one[1], one[1] * two[1])


def minus(one, two):
    """Return the first share less the second one."""
    return share(one[0] * two[1] - two[0] * one[1], one[1] * two[1])


def times(one, two):
    """Return the product of two shares."""
    return share(one[0] * two[0], one[1] * two[1])


def mean(shares):
    """Return the mean of the shares."""
    if len(shares) == 0:
        raise BadCount(0)
    total = (0, 1)
    for one in shares:
        total = plus(total, one)
    return times(total, (1, len(shares)))


def add_share(found, place, one):
    """Add a share to what stands at the place in a dict of shares."""
    found[place] = plus(found.get(place, (0, 1)), one)


def pairs_of(found):
    """Return the list of chances that a dict of shares tells: ascending pairs, without shares of 0."""
    return tuple([(place, found[place]) for place in sorted(found) if found[place] != (0, 1)])
