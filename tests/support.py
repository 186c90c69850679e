"""What several tests need: a test case that asks for errors, and calendars and trees found by listing."""

import unittest
from fractions import Fraction
from functools import lru_cache
from itertools import combinations, product
from math import gcd

from datedlines.calendars import Calendar, made_calendar
from datedlines.errors import BadFamily, BadRow, BadSize, Refused, TooMany

# Values built from tuples, texts and numbers that are no tuple of numbers.
ODD = (True, False, "", "change", "2", 0, 1, -7, 10 ** 40, ("",), ("a", 2), ((2,),), (True,), (2, True), (((2,),),))

DEEP = ()
for _ in range(99):
    DEEP = (DEEP,)

LONG = (2,) * 10 ** 5


# A tree of plain(4).
TREE = (((0, 1),), ((2, 3),), ((0, 2),))

# What is no set of plain(4), and the index that BadSet tells.
WRONG_SETS = (((), 0), ((4,), 0), ((-1, 0), 0), ((0, 4), 1), ((0, 0), 1), ((2, 1, 9), 1), ((0, 1, 2, 3, 4), 4),
              ((0, 3, 2), 2), ((10 ** 40,), 0))

# What is no family of plain(4), and the error.
WRONG_FAMILIES = (((), TooMany, 0), (((0, 1), (2, 3), (0, 1, 2, 3), (0, 2), (1,)), TooMany, 5), (((),), BadFamily, 0),
                  (((0, 1), (2,)), BadFamily, 1), (((1, 0),), BadFamily, 0), (((0, 0),), BadFamily, 0),
                  (((2, 3), (0, 4)), BadFamily, 1), (((-1, 0),), BadFamily, 0), (((0, 10 ** 40),), BadFamily, 0),
                  (((0, 1), (2, 3), (0, 1)), BadFamily, 2), (((0, 1), (1, 2), (3,)), BadFamily, 1),
                  (((0, 1), (0, 1, 2), (0, 2)), BadFamily, 2), (((0, 1, 2), (0, 2), (1, 2, 3)), BadFamily, 2))

# What are no dates of plain(3), and what BadDates tells.
WRONG_DATES = ((((5,), ()), (2, 1)), (((9, 5, 9), (0, 0, 0)), (2, 3)), (((), ()), (2, 0)), (((9, 5), (0, 0)), (3, 2)),
               (((9, 5), (0, 0, 0, 0)), (3, 4)), (((9, 5), (9, 9, 9)), (0, 1)), (((5, 5), (0, 0, 0)), (0, 1)),
               (((10 ** 13, 5), (6, 6, 6)), (0, 0)), (((5, 9), (0, 6, 7)), (1, 1)), (((5, 9), (6, 6, 0)), (1, 0)),
               (((5, 9), (0, 0, 6)), (1, 2)), (((-5, -2), (-5, -10 ** 13, 0)), (1, 1)))

# What is no wood, of however many leaves.
NO_WOODS = ((), (1,), (0, 2), (0, 0), (1, 0), (0, 1, 1), ((0,), 1), ((0,),), ((),), (0, ()), (0, (), 1), ((1, 0),),
            (1, (0, 2)), ((1, 2), 0), ((0, (2, 1)),), (((1, 2), (0, 3)),), ((0, 1), (0, 1)), ((0, 1), (1, 2)), (-1, 0),
            (0, -1), (0, 10 ** 40), (0, True), (False, 1), ((False, True),), (False,), (0, "1"), ("0",), (0, ("1", 2)),
            (((0, 1),),), ((((0, 1), 2), 3), 5), tuple(range(13)), (tuple(range(13)),), (None, 0), ((0, 1), None))


class Case(unittest.TestCase):
    def refused(self, error, what, function, *args, **more):
        """Ask that the call raises just this error, with just this what."""
        with self.assertRaises(Refused) as caught:
            function(*args, **more)
        self.assertIs(caught.exception.__class__, error)
        self.assertEqual(caught.exception.what, what)
        self.assertIs(caught.exception.what.__class__, what.__class__)

    def refuses_trees(self, function, *more):
        """Ask that the function raises a tree's errors of its second argument, whatever stands behind it."""
        plain_four = Calendar((0,) * 4, ((2,),) * 3)
        for rows in ((), TREE[:2], TREE + (((0, 1),),), ("",) * 4):
            self.refused(BadSize, len(rows), function, plain_four, rows, *more)
        for odd in ODD + (((1, 0),), ((0, 4),), ((0, 1), (2, 3)), ((0, 1, 2),), (), DEEP, LONG):
            self.refused(BadRow, 0, function, plain_four, (odd, "", TREE[2]), *more)
        for odd in ODD + (((0, 1),), ((1, 2),), DEEP):
            self.refused(BadRow, 1, function, plain_four, (TREE[0], odd, odd), *more)

    def assert_chances(self, pairs, total=(1, 1)):
        """Ask that the pairs ascend, and that their shares are above 0, in lowest terms, and have this sum."""
        places = [place for place, _ in pairs]
        self.assertEqual(places, sorted(set(places)))
        for _, (n, d) in pairs:
            self.assertGreater(n, 0)
            self.assertGreater(d, 0)
            self.assertEqual(gcd(n, d), 1)
        self.assertEqual(sum(Fraction(*one) for _, one in pairs), Fraction(*total))


def calendar_of(born, *days):
    return made_calendar(born, days)


LATE = Calendar((0, 0, 1, 1, 2), ((2,), (2,), (3,)))
TWO_LEFT = Calendar((0, 0, 1, 0, 3), ((2,), (2,), (2,)))
PAIRS = Calendar((0, 0, 0, 0), ((2, 2), (2,)))
MIXED = Calendar((0, 0, 0, 0, 0, 0, 1), ((3, 2), (2, 2)))
SINGLE = Calendar((0,), ())
WIDE = Calendar((0,) * 12, ((3, 2, 2), (2, 2), (3, 2), (2,), (2,)))
PLAIN_TWELVE = Calendar((0,) * 12, ((2,),) * 11)
# 2000 and 2016 trees, on both sides of the limit of 2000.
AT_LIMIT = Calendar((0,) * 6 + (1, 2), ((3,), (2,), (2,)))
OVER_LIMIT = Calendar((0,) * 9, ((2,), (5,)))
LATE_TWELVE = Calendar((0, 0, 1, 2, 3, 4, 5, 6, 7, 8, 9, 10), ((2,),) * 11)
# Twelve leaves with births of all kinds, the last one behind all days, and two lines left.
LATE_MANY = Calendar((0, 0, 0, 0, 0, 1, 1, 2, 3, 5, 6, 7), ((2, 2), (3,), (2,), (2, 2), (2,), (2,), (2,)))


def small_patterns(k):
    """All patterns but () of at most k lines, from all tuples of sizes."""
    found = []
    for many in range(1, k // 2 + 1):
        for sizes in product(range(2, k + 1), repeat=many):
            if sum(sizes) <= k and list(sizes) == sorted(sizes, reverse=True):
                found.append(sizes)
    return sorted(found)


def enough(born, days):
    """Whether on each day as many lines are alive as meet."""
    for d, pattern in enumerate(days):
        ahead = len([x for x in born if x <= d]) - sum(s - 1 for e in range(d) for s in days[e])
        if ahead < sum(pattern):
            return False
    return True


def small_calendars(most_leaves, most_days):
    """All calendars up to this many leaves and days."""
    found = []
    for n in range(1, most_leaves + 1):
        for m in range(most_days + 1):
            for days in product(small_patterns(n), repeat=m):
                for born in product(range(m + 1), repeat=n):
                    if enough(born, days):
                        found.append(Calendar(born, days))
    return found


def listed_rows(names, pattern):
    """All rows of groups of these sizes, ascending, from all sets of groups."""
    groups = [g for size in sorted(set(pattern)) for g in combinations(sorted(names), size)]
    found = []
    for row in combinations(sorted(groups), len(pattern)):
        taken = [name for group in row for name in group]
        if len(set(taken)) == len(taken) and sorted(map(len, row), reverse=True) == list(pattern):
            found.append(row)
    return sorted(found)


def sets_at(calendar, tree, d):
    """The lines at moment d as sets of leaves, newcomers among them."""
    lots = [{x} for x, moment in enumerate(calendar.born) if moment <= d]
    for row in tree[:d]:
        for group in row:
            meeting = [lot for lot in lots if min(lot) in group]
            lots = [lot for lot in lots if lot not in meeting] + [set().union(*meeting)]
    return sorted(lots, key=min)


def sets_behind(calendar, tree, d):
    """The lines right after day d as sets of leaves."""
    early = [lot for lot in sets_at(calendar, tree, d + 1) if any(calendar.born[x] <= d for x in lot)]
    return early


def listed_trees(calendar):
    """All trees of a calendar, ascending."""
    found = [()]
    for d, pattern in enumerate(calendar.days):
        longer = []
        for rows in found:
            names = [min(lot) for lot in sets_at(calendar, rows, d)]
            longer.extend([rows + (row,) for row in listed_rows(names, pattern)])
        found = longer
    return sorted(found)


def exchanged_sets(calendar, tree, d, a, b):
    """The tree in which the lines a and b of moment d are exchanged, from sets of leaves."""
    lots = {min(lot): lot for lot in sets_at(calendar, tree, d)}
    here, there = lots[a], lots[b]
    rows = list(tree[:d])
    for e in range(d, len(tree)):
        name_of = {}
        for lot in sets_at(calendar, tree, e):
            other = lot - here - there
            if here <= lot:
                other = other | there
            if there <= lot:
                other = other | here
            name_of[min(lot)] = min(other)
        groups = [tuple(sorted(name_of[name] for name in group)) for group in tree[e]]
        rows.append(tuple(sorted(groups)))
    return tuple(rows)


@lru_cache(maxsize=None)
def _trees_of(born, days):
    return tuple(listed_trees(Calendar(born, days)))


def trees_of(calendar):
    """All trees of a calendar, ascending, listed once."""
    return _trees_of(calendar.born, calendar.days)


def unfolded(joint, lots):
    """A joint whose leaves are told by the sets that they stand for."""
    return frozenset(frozenset(x for leaf in line for x in lots[leaf]) for line in joint)


def joint_sets(calendar, tree):
    """For each day the joints, as sets of the sets of leaves that meet."""
    found = []
    for d, row in enumerate(tree):
        lots = {min(lot): frozenset(lot) for lot in sets_at(calendar, tree, d)}
        found.append({frozenset(lots[name] for name in group) for group in row})
    return found


def chance_calendars():
    """Calendars whose trees are listed to find chances: all small ones, every third one of five leaves, and some."""
    return small_calendars(4, 3) + small_calendars(5, 2)[::3] + [LATE, TWO_LEFT, PAIRS, MIXED]


def subsets(leaves, least=1):
    """All ascending tuples of at least so many of the leaves."""
    return [some for many in range(least, len(leaves) + 1) for some in combinations(leaves, many)]


@lru_cache(maxsize=None)
def _behind_of(born, days):
    calendar = Calendar(born, days)
    found = []
    for tree in listed_trees(calendar):
        behind = [sets_behind(calendar, tree, d) for d in range(len(days))]
        found.append([[frozenset(lot) for lot in lots] for lots in behind])
    return found


def behind_all(calendar):
    """For each tree, in ascending order, the lines right after each day."""
    return _behind_of(calendar.born, calendar.days)


def listed_chances(calendar, answer):
    """The list of chances of an answer, which is given the lines right after each day of a tree."""
    answers = [answer(behind) for behind in behind_all(calendar)]
    return tuple((thing, lowest(answers.count(thing), len(answers))) for thing in sorted(set(answers)))


def listed_mean(calendar, answer):
    """The mean of an answer that is a number."""
    answers = [answer(behind) for behind in behind_all(calendar)]
    return lowest(sum(answers), len(answers))


def lowest(n, d):
    """The share n / d, without the package."""
    fraction = Fraction(n, d)
    return fraction.numerator, fraction.denominator


def first_of(behind, holds):
    """The first day for which holds, given the day and the lines right after it; the number of days for never."""
    for d, lots in enumerate(behind):
        if holds(d, lots):
            return d
    return len(behind)


def line_of(lots, x):
    """The one of the lines that has the leaf x, None if there is none."""
    for lot in lots:
        if x in lot:
            return lot
    return None


def families_of(n):
    """All families of sets of n leaves, their sets in one order each."""
    sets = [frozenset(some) for some in subsets(range(n), 2)]
    found = []
    for many in range(1, 5):
        for family in combinations(sets, many):
            if all(not one & two or one < two or two < one for one, two in combinations(family, 2)):
                found.append(tuple(tuple(sorted(some)) for some in family))
    # Each second one with its sets the other way round, as their order is free.
    return [family[::-1] if i % 2 else family for i, family in enumerate(found)]


def dates_of(calendar, start):
    """Dates of a calendar from start on: at odd distances, each second leaf born at the last date that may be."""
    days_at = tuple(start + 3 * d + d * d for d in range(len(calendar.days)))
    born_at = []
    for x, moment in enumerate(calendar.born):
        last = days_at[moment] if moment < len(days_at) else (days_at[-1] if days_at else start) + x + 1
        first = days_at[moment - 1] + 1 if moment else last - x
        born_at.append(last if x % 2 else first)
    return (days_at, tuple(born_at))


def all_shapes(leaves):
    """All shapes of these leaves, at least one."""
    return list(leaves) if len(leaves) == 1 else lots_begun(leaves, len(leaves) - 1)


def all_lots(leaves):
    """All tuples of shapes that have these leaves together, ascending by their least leaves."""
    return lots_begun(leaves, len(leaves)) if leaves else [()]


def lots_begun(leaves, most):
    """Those of them whose first shape has at most so many leaves."""
    found = []
    for many in range(most):
        for others in combinations(leaves[1:], many):
            later_leaves = tuple(x for x in leaves[1:] if x not in others)
            for shape in all_shapes(leaves[:1] + others):
                found.extend([(shape,) + later for later in all_lots(later_leaves)])
    return found


@lru_cache(maxsize=None)
def all_woods(n):
    """All woods of n leaves."""
    return all_lots(tuple(range(n)))


SIGNS = list("0129-+,;()ab \n\t\r_.") + ["10", "12", "13", "00", "\u0661", "\u00b2", "\u00a0", "\x0b", "\u2028", "%"]


def changed_texts(text):
    """The text with one sign, word or row changed, put in, left out or told twice; without the text itself."""
    found = set()
    for at in range(len(text) + 1):
        for sign in SIGNS:
            found.add(text[:at] + sign + text[at:])
            found.add(text[:at] + sign + text[at + 1:])
        found.add(text[:at] + text[at + 1:])
        found.add(text[:at] + text[at:at + 1].upper() + text[at + 1:])
    for mark in ("\n", " "):
        parts = text.split(mark)
        for i in range(len(parts)):
            found.add(mark.join(parts[:i] + parts[i + 1:]))
            found.add(mark.join(parts[:i] + [parts[i]] + parts[i:]))
            found.add(mark.join(parts[:i] + [""] + parts[i:]))
            found.add(mark.join(parts[i:] + parts[:i]))
            for j in range(i):
                swapped = list(parts)
                swapped[i], swapped[j] = parts[j], parts[i]
                found.add(mark.join(swapped))
    return sorted(found - {text})
