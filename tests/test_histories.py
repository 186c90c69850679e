import unittest
from math import factorial

from datedlines.calendarlooks import plain, star
from datedlines.calendars import Calendar
from datedlines.errors import BadShape
from datedlines.histories import histories, next_tree
from datedlines.hooks import plain_histories
from datedlines.nthtree import nth_tree, tree_rank
from datedlines.numbers import size
from datedlines.shapes import shape_of
from support import (DEEP, LATE, LATE_MANY, LATE_TWELVE, LONG, MIXED, NO_WOODS, ODD, PAIRS, PLAIN_TWELVE, SINGLE,
                     TWO_LEFT, WIDE, Case, all_woods, calendar_of, listed_trees, small_calendars)

EVEN = (((0, 1), (2, 3)),)
CHAIN = ((((0, 1), 2), 3),)


class HistoriesTest(Case):
    def test_histories(self):
        self.assertEqual(histories(plain(4), EVEN), 2)
        self.assertEqual(histories(plain(4), CHAIN), 1)
        self.assertEqual(next_tree(plain(4), EVEN), (((0, 1),), ((2, 3),), ((0, 2),)))
        self.assertEqual(histories(star(12), (tuple(range(12)),)), 1)

    def test_edges(self):
        self.assertEqual(histories(SINGLE, (0,)), 1)
        self.assertEqual(next_tree(SINGLE, (0,)), ())
        self.assertEqual(histories(Calendar((0, 0), ()), (0, 1)), 1)
        self.assertEqual(histories(Calendar((0, 0), ()), ((0, 1),)), 0)
        self.assertIsNone(next_tree(Calendar((0, 0), ()), ((0, 1),)))
        self.assertEqual(histories(plain(2), (0, 1)), 0)
        self.assertIsNone(next_tree(plain(2), (0, 1)))
        self.assertEqual(histories(TWO_LEFT, (((0, 1), (2, 3)), 4)), 1)
        self.assertEqual(histories(TWO_LEFT, ((0, 1, 2, 3), 4)), 0)

    def test_births_and_sizes(self):
        # The leaf 1 is born after the first day, so the joint of 2 and 3 must come first.
        calendar = calendar_of((0, 1, 0, 0), (2,), (2,), (2,))
        self.assertEqual(histories(calendar, EVEN), 1)
        self.assertEqual(next_tree(calendar, EVEN), (((2, 3),), ((0, 1),), ((0, 2),)))
        self.assertIsNone(next_tree(calendar, (((0, 1), 2, 3),)))
        self.assertEqual(histories(PAIRS, EVEN), 1)
        self.assertEqual(histories(PAIRS, CHAIN), 0)

    def test_the_least_row_that_goes_on(self):
        # The joint of 0 and 1 could be done first, but then three lines could not meet on the second day.
        calendar = Calendar((0,) * 6, ((2,), (3,), (2,)))
        wood = ((0, 1), ((2, 3), 4, 5))
        self.assertEqual(histories(calendar, wood), 1)
        self.assertEqual(next_tree(calendar, wood), (((2, 3),), ((2, 4, 5),), ((0, 1),)))

    def test_against_all_trees(self):
        calendars = small_calendars(4, 3) + small_calendars(5, 2)[::9] + [plain(4), plain(5), LATE, TWO_LEFT, PAIRS]
        for calendar in calendars:
            trees_of = {}
            for tree in listed_trees(calendar):
                trees_of.setdefault(repr(shape_of(calendar, tree)), []).append(tree)
            total = 0
            for wood in all_woods(len(calendar.born)):
                told = trees_of.get(repr(wood), [])
                self.assertEqual(histories(calendar, wood), len(told))
                self.assertEqual(next_tree(calendar, wood), told[0] if told else None)
                total += len(told)
            self.assertEqual(total, size(calendar))

    def test_groups_of_several_sizes(self):
        for calendar in (MIXED, Calendar((0, 0, 0, 0, 1, 1, 2), ((2, 2), (3,), (2,))),
                         Calendar((0,) * 6, ((2,), (3,), (2,)))):
            trees_of = {}
            for tree in listed_trees(calendar):
                wood = shape_of(calendar, tree)
                trees_of.setdefault(repr(wood), (wood, []))[1].append(tree)
            for wood, trees in trees_of.values():
                self.assertEqual(histories(calendar, wood), len(trees))
                self.assertEqual(next_tree(calendar, wood), trees[0])

    def test_twelve_leaves(self):
        for calendar in (PLAIN_TWELVE, WIDE, LATE_TWELVE, LATE_MANY):
            for k in (0, size(calendar) // 3, size(calendar) // 2, size(calendar) - 1):
                wood = shape_of(calendar, nth_tree(calendar, k))
                found = next_tree(calendar, wood)
                self.assertEqual(shape_of(calendar, found), wood)
                self.assertLessEqual(tree_rank(calendar, found), k)
                self.assertGreaterEqual(histories(calendar, wood), 1)
                if calendar == PLAIN_TWELVE:
                    self.assertEqual(histories(calendar, wood), plain_histories(wood))
        even = ((((0, 1), (2, 3)), ((4, 5), (6, 7))), ((8, 9), (10, 11)))
        self.assertEqual(histories(PLAIN_TWELVE, (even,)), factorial(11) // (3 * 3 * 7 * 3 * 11))
        pairs = tuple((x, x + 1) for x in range(0, 12, 2))
        self.assertEqual(histories(Calendar((0,) * 12, ((2,),) * 6), pairs), 720)
        self.assertEqual(histories(Calendar((0,) * 12, ((2, 2, 2), (2, 2, 2))), pairs), 20)

    def test_no_woods(self):
        for function in (histories, next_tree):
            for thing in NO_WOODS + ODD + (DEEP, LONG, tuple(range(13))):
                self.refused(BadShape, 0, function, plain(4), thing)
            for thing in ((0,), (0, 1, 2), ((0, 1), 2, 3, 4), tuple(range(12))):
                self.refused(BadShape, 1, function, plain(4), thing)


if __name__ == "__main__":
    unittest.main()
