import unittest
from fractions import Fraction

from datedlines.calendarlooks import plain, star
from datedlines.calendars import Calendar
from datedlines.cuts import cut
from datedlines.cutshares import cut_count, cut_share
from datedlines.errors import BadBirth, BadDay, BadSet, BadSize
from datedlines.nthtree import nth_tree
from datedlines.numbers import size
from support import (LATE, LATE_MANY, LATE_TWELVE, MIXED, PAIRS, PLAIN_TWELVE, SINGLE, TWO_LEFT, WIDE, WRONG_SETS,
                     Case, lowest, small_calendars, subsets, trees_of)


class CutSharesTest(Case):
    def test_cut_share(self):
        self.assertEqual(cut_count(plain(4), (0, 1, 2), plain(3), (0, 1)), 1)
        self.assertEqual(cut_share(plain(4), (0, 1, 2), plain(3), (0, 1)), (1, 6))
        self.assertEqual(cut_count(plain(4), (0, 3), plain(2), (2,)), 10)
        self.assertEqual(cut_share(plain(4), (0, 3), plain(2), (2,)), (5, 9))
        self.assertEqual(cut_share(plain(4), (0, 1, 2), star(3), (2,)), (0, 1))

    def test_one_leaf(self):
        for calendar in (SINGLE, plain(4), TWO_LEFT, LATE_MANY, PLAIN_TWELVE):
            self.assertEqual(cut_share(calendar, (0,), SINGLE, ()), (1, 1))
            self.assertEqual(cut_count(calendar, (0,), SINGLE, ()), size(calendar))

    def test_all_leaves(self):
        for calendar in small_calendars(4, 2) + [LATE, TWO_LEFT, MIXED, WIDE, PLAIN_TWELVE, LATE_TWELVE, LATE_MANY]:
            some = tuple(range(len(calendar.born)))
            days = tuple(range(len(calendar.days)))
            self.assertEqual(cut_count(calendar, some, calendar, days), 1)
            self.assertEqual(cut_share(calendar, some, calendar, days), (1, 1))

    def test_never(self):
        pair = Calendar((0, 0), ())
        # On the one day all lines meet, so these two can not keep apart.
        self.assertEqual(cut_count(star(3), (0, 1), pair, ()), 0)
        self.assertEqual(cut_share(star(3), (0, 1), pair, ()), (0, 1))
        # Two groups of two are more than the day has.
        self.assertEqual(cut_share(plain(4), (0, 1, 2, 3), PAIRS, (0, 1)), (0, 1))
        # Four lines of the set cannot be left behind the first day.
        self.assertEqual(cut_count(plain(4), (0, 1, 2, 3), star(4), (2,)), 0)
        self.assertEqual(cut_count(plain(4), (0, 1, 2, 3), Calendar((0,) * 4, ()), ()), 0)
        self.assertEqual(cut_share(PLAIN_TWELVE, tuple(range(12)), star(12), (10,)), (0, 1))

    def test_against_all_trees(self):
        for calendar in small_calendars(4, 2) + small_calendars(4, 3)[::11] + [LATE, TWO_LEFT, PAIRS, plain(5)]:
            for some in subsets(range(len(calendar.born))):
                self.assert_shares(calendar, some)

    def assert_shares(self, calendar, some):
        """Ask for each cut that a tree has how many trees have it; so each other tree of it has as many."""
        many = {}
        for tree in trees_of(calendar):
            small, found, days = cut(calendar, tree, some)
            trees = many.setdefault((small.born, small.days, days), {})
            trees[found] = trees.get(found, 0) + 1
        total = Fraction(0)
        for (born, patterns, days), trees in many.items():
            small = Calendar(born, patterns)
            told = {cut_count(calendar, some, small, days)}
            self.assertEqual(set(trees.values()), told)
            self.assertEqual(set(trees), set(trees_of(small)))
            found = cut_share(calendar, some, small, days)
            self.assertEqual(found, lowest(sum(trees.values()), size(calendar)))
            total += Fraction(*found)
        self.assertEqual(total, 1)

    def test_all_cuts_that_no_tree_has(self):
        for calendar in (plain(4), LATE, PAIRS, star(4)):
            for some in subsets(range(len(calendar.born)), 2)[::2]:
                had = [cut(calendar, tree, some)[::2] for tree in trees_of(calendar)]
                for days in subsets(range(len(calendar.days)), 0):
                    born = tuple(len([d for d in days if d < calendar.born[x]]) for x in some)
                    for small in small_calendars(len(some), len(days)):
                        if small.born == born and len(small.days) == len(days) and (small, days) not in had:
                            self.assertEqual(cut_count(calendar, some, small, days), 0)
                            self.assertEqual(cut_share(calendar, some, small, days), (0, 1))

    def test_groups_of_several_sizes(self):
        for calendar in (MIXED, Calendar((0, 0, 0, 0, 1, 1, 2), ((2, 2), (3,), (2,)))):
            for some in ((0, 1), (0, 2, 6), (1, 2, 3, 4), (0, 4, 5, 6), (0, 1, 2, 3, 4, 5)):
                self.assert_shares(calendar, some)

    def test_twelve_leaves(self):
        for calendar in (PLAIN_TWELVE, LATE_TWELVE, LATE_MANY, WIDE):
            for k in (0, size(calendar) // 3, size(calendar) - 1):
                tree = nth_tree(calendar, k)
                for some in ((0, 11), (1, 3, 5, 7), tuple(range(6)), tuple(range(1, 12))):
                    small, _, days = cut(calendar, tree, some)
                    found = cut_count(calendar, some, small, days)
                    self.assertGreater(found, 0)
                    self.assertEqual(cut_share(calendar, some, small, days),
                                     lowest(found * size(small), size(calendar)))

    def test_wrong(self):
        small = plain(3)
        for function in (cut_count, cut_share):
            for some, i in WRONG_SETS:
                self.refused(BadSet, i, function, plain(4), some, plain(5), (9,))
            for many in (1, 2, 4, 12):
                self.refused(BadSize, many, function, plain(4), (0, 1, 2), plain(many), (9,))
            for days, i in (((3,), 0), ((-1,), 0), ((0, 0), 1), ((1, 0), 1), ((0, 3), 1), ((10 ** 40,), 0),
                            ((0, 1, 1), 2), ((0, 1, 2, 3), 3)):
                self.refused(BadDay, i, function, plain(4), (0, 1, 2), small, days)
            for days in ((), (0,), (0, 1, 2)):
                self.refused(BadDay, (len(days),), function, plain(4), (0, 1, 2), small, days)
            self.refused(BadDay, 0, function, SINGLE, (0,), SINGLE, (0,))

    def test_wrong_births(self):
        # The leaves of LATE are born 0, 0, 1, 1, 2.
        for born, some, days, x in (((0, 0, 0), (0, 1, 2), (0, 1), 2), ((0, 0, 1), (0, 1, 2), (1, 2), 2),
                                    ((0, 1, 0), (0, 1, 4), (0, 2), 1), ((0, 0, 0), (0, 2, 4), (0, 1), 1),
                                    ((0, 0, 1), (0, 1, 4), (0, 1), 2), ((1, 0, 0), (0, 2, 4), (1, 2), 0)):
            for function in (cut_count, cut_share):
                self.refused(BadBirth, x, function, LATE, some, Calendar(born, ((2,), (2,))), days)
        self.assertEqual(cut_count(LATE, (0, 1, 4), Calendar((0, 0, 1), ((2,), (2,))), (0, 2)), 3)


if __name__ == "__main__":
    unittest.main()
