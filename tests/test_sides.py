import unittest
from itertools import product

from datedlines.alive import ends
from datedlines.calendarlooks import plain, star
from datedlines.calendars import Calendar, made_calendar
from datedlines.errors import BadRow, BadSet, BadSize, BadWeave
from datedlines.nthtree import nth_tree
from datedlines.numbers import size
from datedlines.rests import bough_tree
from datedlines.sides import apart_share, beside, unmixed, woven
from datedlines.trees import is_tree
from support import (LATE, LATE_MANY, MIXED, ODD, PAIRS, PLAIN_TWELVE, SINGLE, TREE, TWO_LEFT, WIDE, WRONG_SETS, Case,
                     chance_calendars, joint_sets, lowest, sets_at, small_calendars, subsets, trees_of, unfolded)

EARLY = Calendar((0, 1, 0), ((2,),))


def weaves(one, two):
    """All rows that weave the calendars."""
    days = (len(one.days), len(two.days))
    return [row for many in range(max(days), sum(days) + 1) for row in product((0, 1, 2), repeat=many)
            if (row.count(0) + row.count(2), row.count(1) + row.count(2)) == days]


def sides_of(one, two, row):
    """For each day of the row the day of one and the day of two, None for no day."""
    left = iter(range(len(one.days)))
    right = iter(range(len(two.days)))
    return [(None if number == 1 else next(left), None if number == 0 else next(right)) for number in row]


class WovenTest(Case):
    def test_woven(self):
        self.assertEqual(woven(plain(3), plain(2), (0, 1, 0)), Calendar((0, 0, 0, 1, 1), ((2,),) * 3))
        self.assertEqual(woven(star(3), PAIRS, (2, 1)), Calendar((0,) * 7, ((3, 2, 2), (2,))))
        self.assertEqual(woven(PAIRS, star(3), (0, 2)), Calendar((0,) * 4 + (1,) * 3, ((2, 2), (3, 2))))

    def test_births(self):
        # The days of LATE are the days 1, 2, 4, and the one day of EARLY is day 3.
        both = woven(LATE, EARLY, (0, 0, 1, 0))
        self.assertEqual(both, Calendar((0, 0, 1, 1, 3, 2, 4, 2), ((2,), (2,), (2,), (3,))))
        both = woven(EARLY, LATE, (1, 1, 2))
        self.assertEqual(both, Calendar((2, 3, 2, 0, 0, 1, 1, 2), ((2,), (2,), (3, 2))))

    def test_without_days(self):
        self.assertEqual(woven(SINGLE, SINGLE, ()), Calendar((0, 0), ()))
        self.assertEqual(woven(SINGLE, plain(2), (1,)), Calendar((1, 0, 0), ((2,),)))
        self.assertEqual(woven(plain(3), Calendar((0, 0), ()), (0, 0)), Calendar((0, 0, 0, 2, 2), ((2,), (2,))))

    def test_all_small_ones(self):
        calendars = small_calendars(3, 2)[::3] + [LATE, PAIRS]
        for one in calendars:
            for two in calendars[::2]:
                for row in weaves(one, two)[::3]:
                    self.assert_woven(one, two, row)

    def assert_woven(self, one, two, row):
        both = woven(one, two, row)
        self.assertEqual(made_calendar(both.born, both.days), both)
        days = sides_of(one, two, row)
        for pattern, (left, right) in zip(both.days, days):
            sizes = (one.days[left] if left is not None else ()) + (two.days[right] if right is not None else ())
            self.assertEqual(pattern, tuple(sorted(sizes, reverse=True)))
        for side, calendar, above in ((0, one, 0), (1, two, len(one.born))):
            for x, moment in enumerate(calendar.born):
                told = [d for d, pair in enumerate(days) if pair[side] == moment]
                self.assertEqual(both.born[x + above], told[0] if told else len(row))

    def test_twelve_leaves(self):
        self.assertEqual(woven(plain(6), plain(6), (0, 1) * 5), Calendar((0,) * 6 + (1,) * 6, ((2,),) * 10))
        both = Calendar((0,) * 6 + (4,) * 6, ((2,),) * 4 + ((6, 2),))
        self.assertEqual(woven(plain(6), star(6), (0, 0, 0, 0, 2)), both)
        self.refused(BadSize, 13, woven, plain(7), plain(6), (0,) * 6 + (1,) * 5)
        self.refused(BadSize, 24, woven, plain(12), PLAIN_TWELVE, (2,) * 11)
        self.refused(BadSize, 24, apart_share, plain(12), PLAIN_TWELVE, (2,) * 11)

    def test_wrong_rows(self):
        for function in (woven, apart_share):
            for row, what in (((3,), 0), ((-1, 9), 0), ((0, 10 ** 40), 1), ((0, 0, 0), 2), ((1, 1), 1), ((2, 2), 1),
                              ((0, 1, 2), 2), ((0, 2, 0), 2), ((0, 0, 1, 3), 3), ((0, 0, 1, 0), 3), ((), 0), ((0,), 1),
                              ((0, 0), 2), ((0, 1), 2), ((2,), 1), ((1,), 1)):
                self.refused(BadWeave, what, function, plain(3), plain(2), row)
            self.refused(BadWeave, 0, function, SINGLE, SINGLE, (0,))
            # What is wrong with the row comes before too many leaves.
            self.refused(BadWeave, 10, function, PLAIN_TWELVE, PLAIN_TWELVE, (2,) * 10)
            self.refused(BadWeave, 11, function, PLAIN_TWELVE, PLAIN_TWELVE, (2,) * 12)


class BesideTest(Case):
    def test_beside(self):
        self.assertEqual(beside(plain(3), (((0, 1),), ((0, 2),)), plain(2), (((0, 1),),), (0, 1, 0)),
                         (((0, 1),), ((3, 4),), ((0, 2),)))
        self.assertEqual(beside(plain(2), (((0, 1),),), star(3), (((0, 1, 2),),), (2,)), (((0, 1), (2, 3, 4)),))
        self.assertEqual(beside(SINGLE, (), SINGLE, (), ()), ())

    def test_all_small_ones(self):
        calendars = small_calendars(3, 2)[::5] + [LATE, PAIRS, plain(3), star(3)]
        for one in calendars:
            for two in calendars[::2]:
                for row in weaves(one, two)[::4]:
                    found = set()
                    for first in trees_of(one):
                        for second in trees_of(two):
                            self.assert_beside(one, first, two, second, row)
                            found.add(beside(one, first, two, second, row))
                    self.assertEqual(len(found), size(one) * size(two))

    def assert_beside(self, one, first, two, second, row):
        both = woven(one, two, row)
        found = beside(one, first, two, second, row)
        self.assertIs(is_tree(both, found), True)
        many = len(one.born)
        names = [frozenset([x]) for x in range(len(both.born))]
        told = []
        for left, right in sides_of(one, two, row):
            ones = joint_sets(one, first)[left] if left is not None else set()
            twos = joint_sets(two, second)[right] if right is not None else set()
            told.append(ones | {unfolded(joint, names[many:]) for joint in twos})
        self.assertEqual(joint_sets(both, found), told)
        if ends(one) == 1:
            self.assertEqual(bough_tree(both, found, len(row), 0), (one, first))
        if ends(two) == 1:
            self.assertEqual(bough_tree(both, found, len(row), many), (two, second))

    def test_apart_share(self):
        self.assertEqual(apart_share(plain(3), plain(2), (0, 1, 0)), (1, 18))
        self.assertEqual(apart_share(SINGLE, SINGLE, ()), (1, 1))
        self.assertEqual(apart_share(plain(2), plain(2), (2,)), (1, 3))
        calendars = small_calendars(3, 1) + [plain(3), EARLY]
        for one in calendars:
            for two in calendars[::3]:
                for row in weaves(one, two):
                    both = woven(one, two, row)
                    told = [tree for tree in trees_of(both) if self.is_apart(one, two, row, both, tree)]
                    self.assertEqual(apart_share(one, two, row), lowest(len(told), len(trees_of(both))))

    def is_apart(self, one, two, row, both, tree):
        """Whether on each day the groups can be parted into groups of each side with the sizes of its day there."""
        many = len(one.born)
        for day, (left, right) in zip(joint_sets(both, tree), sides_of(one, two, row)):
            leaves = [(len(joint), {x for line in joint for x in line}) for joint in day]
            ones = sorted([s for s, lot in leaves if max(lot) < many], reverse=True)
            twos = sorted([s for s, lot in leaves if min(lot) >= many], reverse=True)
            if tuple(ones) != (one.days[left] if left is not None else ()):
                return False
            if tuple(twos) != (two.days[right] if right is not None else ()):
                return False
        return True

    def test_twelve_leaves(self):
        one, two = plain(6), Calendar((0, 0, 0, 1, 1, 2), ((2,), (3,), (2,)))
        first, second = nth_tree(one, 2000), nth_tree(two, 17)
        row = (0, 2, 0, 1, 2, 0)
        self.assert_beside(one, first, two, second, row)
        self.assertEqual(apart_share(one, two, row), lowest(size(one) * size(two), size(woven(one, two, row))))

    def test_wrong(self):
        tree = (((0, 1),),)
        self.refused(BadSize, 0, beside, plain(4), (), plain(2), "", (9,))
        self.refused(BadSize, 2, beside, plain(4), TREE, plain(2), tree * 2, (9,))
        for odd in ODD:
            self.refused(BadRow, 2, beside, plain(4), TREE[:2] + (odd,), plain(2), (), (9,))
            self.refused(BadRow, 0, beside, plain(4), TREE, plain(2), (odd,), (9,))
        self.refused(BadWeave, 0, beside, plain(4), TREE, plain(2), tree, (9,))
        self.refused(BadWeave, 3, beside, plain(4), TREE, plain(2), tree, (0, 0, 0))
        self.refused(BadSize, 13, beside, plain(12), nth_tree(plain(12), 0), SINGLE, (), (0,) * 11)


class UnmixedTest(Case):
    def test_unmixed(self):
        both = woven(plain(3), plain(2), (0, 1, 0))
        self.assertEqual(size(both), 54)
        self.assertEqual(unmixed(both, (0, 1, 2)), 6)
        self.assertEqual(unmixed(both, (3, 4)), 6)
        self.assertEqual(unmixed(SINGLE, (0,)), 1)
        self.assertEqual(unmixed(TWO_LEFT, (4,)), size(TWO_LEFT))
        self.assertEqual(unmixed(plain(4), (0,)), 0)

    def test_all_leaves(self):
        for calendar in (LATE, MIXED, WIDE, PLAIN_TWELVE, LATE_MANY):
            self.assertEqual(unmixed(calendar, tuple(range(len(calendar.born)))), size(calendar))

    def test_against_all_trees(self):
        for calendar in chance_calendars()[::3] + [LATE, TWO_LEFT, PAIRS, MIXED]:
            for some in subsets(range(len(calendar.born)))[::1 if len(calendar.born) < 5 else 4]:
                told = [tree for tree in trees_of(calendar) if self.keeps_apart(calendar, tree, set(some))]
                self.assertEqual(unmixed(calendar, some), len(told))

    def keeps_apart(self, calendar, tree, some):
        for day in joint_sets(calendar, tree):
            for joint in day:
                if len({bool(line & some) for line in joint}) > 1:
                    return False
        return True

    def test_twelve_leaves(self):
        # Two halves that end in two lines: which days belong to which half is not told.
        calendar = Calendar((0,) * 12, ((2,),) * 10)
        self.assertEqual(unmixed(calendar, tuple(range(6))), 252 * size(plain(6)) ** 2)
        self.assertEqual(unmixed(Calendar((0,) * 12, ((3, 3, 3, 3), (2, 2))), (0, 1, 2, 3, 4, 5)), 100)
        self.assertEqual(unmixed(LATE_MANY, (0,)), 0)

    def test_wrong(self):
        for some, i in WRONG_SETS:
            self.refused(BadSet, i, unmixed, plain(4), some)


if __name__ == "__main__":
    unittest.main()
