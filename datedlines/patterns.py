"""Patterns: the sizes of the groups that meet on a day."""

from math import comb, factorial, perm

from datedlines.checks import ask_size, is_falling, is_number
from datedlines.errors import BadDay


def choose(a, b):
    """Return the number of ways to choose b things out of a."""
    ask_size(a)
    ask_size(b)
    return comb(a, b)


def is_pattern(thing):
    """Tell whether the thing is a tuple of sizes, from 2 on, that never rises."""
    if not isinstance(thing, tuple):
        return False
    return all([is_number(s) and s >= 2 for s in thing]) and is_falling(thing)


def ask_pattern(pattern):
    """Raise BadDay unless the pattern is one."""
    if not is_pattern(pattern):
        raise BadDay(0)


def patterns(k):
    """Return all patterns but () of at most k lines, ascending."""
    ask_size(k)
    return tuple(_patterns_up_to(k, k))


def _patterns_up_to(k, greatest):
    """Return the patterns but () of at most k lines whose sizes are at most the greatest one."""
    found = []
    for s in range(2, min(k, greatest) + 1):
        found.append((s,))
        found.extend([(s,) + later for later in _patterns_up_to(k - s, s)])
    return found


def met(pattern):
    """Return how many lines meet."""
    ask_pattern(pattern)
    return sum(pattern)


def less(pattern):
    """Return by how many lines there are fewer when these have met."""
    ask_pattern(pattern)
    return sum(pattern) - len(pattern)


def ways(k, pattern):
    """Return the number of ways to choose groups of these sizes out of k things."""
    ask_size(k)
    lines = met(pattern)
    if lines > k:
        return 0
    alike = 1
    for s in pattern:
        alike = alike * factorial(s)
    for s in sorted(set(pattern)):
        alike = alike * factorial(pattern.count(s))
    return perm(k, lines) // alike
