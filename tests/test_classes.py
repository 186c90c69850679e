import unittest

from datedlines.calendarlooks import plain, star
from datedlines.calendars import Calendar
from datedlines.classes import class_of, unlike_days
from datedlines.errors import BadRow, BadSize, TooMany
from datedlines.nthtree import nth_tree
from datedlines.numbers import size
from support import (AT_LIMIT, LATE, LATE_TWELVE, MIXED, ODD, OVER_LIMIT, PAIRS, PLAIN_TWELVE, SINGLE, TWO_LEFT, WIDE,
                     Case, listed_trees, small_calendars)

TREE = (((0, 1),), ((2, 3),), ((0, 2),))


class ClassTest(Case):
    def test_class_of(self):
        self.assertEqual(class_of(plain(3)), ((((0, 1),), ((0, 2),)), (((0, 2),), ((0, 1),)), (((1, 2),), ((0, 1),))))
        self.assertEqual(class_of(SINGLE), ((),))
        self.assertEqual(class_of(Calendar((0, 0, 0), ())), ((),))
        self.assertEqual(class_of(star(12)), (((tuple(range(12)),),),))
        self.assertEqual(class_of(LATE_TWELVE), (tuple(((0, x),) for x in range(1, 12)),))

    def test_against_all_trees(self):
        for calendar in small_calendars(4, 3) + [plain(5), LATE, TWO_LEFT, PAIRS, MIXED]:
            self.assertEqual(class_of(calendar), tuple(listed_trees(calendar)))

    def test_the_limit(self):
        trees = class_of(AT_LIMIT)
        self.assertEqual(len(trees), 2000)
        self.assertEqual(len(set(trees)), 2000)
        self.assertEqual([trees[k] for k in range(0, 2000, 97)], [nth_tree(AT_LIMIT, k) for k in range(0, 2000, 97)])
        self.refused(TooMany, 2016, class_of, OVER_LIMIT)
        for calendar in (PLAIN_TWELVE, WIDE):
            self.refused(TooMany, size(calendar), class_of, calendar)

    def test_unlike_days(self):
        other = (((0, 1),), ((0, 3),), ((0, 2),))
        self.assertEqual(unlike_days(plain(4), TREE, TREE), 0)
        self.assertEqual(unlike_days(plain(4), TREE, other), 1)
        self.assertEqual(unlike_days(plain(4), TREE, (((2, 3),), ((0, 2),), ((0, 1),))), 3)
        self.assertEqual(unlike_days(SINGLE, (), ()), 0)
        first, last = nth_tree(PLAIN_TWELVE, 0), nth_tree(PLAIN_TWELVE, size(PLAIN_TWELVE) - 1)
        self.assertEqual(unlike_days(PLAIN_TWELVE, first, last), 11)

    def test_trees_wrong(self):
        self.refused(BadSize, 2, unlike_days, plain(4), TREE[:2], TREE[:1])
        self.refused(BadSize, 1, unlike_days, plain(4), TREE, TREE[:1])
        for odd in ODD:
            self.refused(BadRow, 2, unlike_days, plain(4), TREE[:2] + (odd,), TREE[:1])
            self.refused(BadRow, 2, unlike_days, plain(4), TREE, TREE[:2] + (odd,))


if __name__ == "__main__":
    unittest.main()
