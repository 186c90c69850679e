import unittest

from datedlines.calendarlooks import plain
from datedlines.errors import BadMoment, BadRow, BadSize
from datedlines.heads import headed, heads_many
from datedlines.nthtree import nth_tree
from datedlines.numbers import size
from support import (DEEP, LATE, LATE_MANY, LATE_TWELVE, LONG, MIXED, ODD, PAIRS, PLAIN_TWELVE, SINGLE, TWO_LEFT, WIDE,
                     Case, listed_trees, small_calendars)

HEAD = (((0, 1),), ((2, 3),))


class HeadedTest(Case):
    def test_headed(self):
        self.assertEqual(headed(plain(4), (((0, 1),),)), (0, 3))
        self.assertEqual(headed(plain(4), ()), (0, 18))
        self.assertEqual(headed(plain(4), HEAD), (2, 1))
        self.assertEqual(headed(plain(4), HEAD + (((0, 2),),)), (2, 1))
        self.assertEqual(headed(SINGLE, ()), (0, 1))

    def test_against_all_trees(self):
        for calendar in small_calendars(4, 3) + [plain(5), LATE, TWO_LEFT, PAIRS, MIXED]:
            trees = listed_trees(calendar)
            for d in range(len(calendar.days) + 1):
                heads = [tree[:d] for tree in trees]
                self.assertEqual(heads_many(calendar, d), len(set(heads)))
                for head in sorted(set(heads)):
                    self.assertEqual(headed(calendar, head), (heads.index(head), heads.count(head)))

    def test_twelve_leaves(self):
        for calendar in (PLAIN_TWELVE, WIDE, LATE_TWELVE, LATE_MANY):
            for k in (0, size(calendar) // 3, size(calendar) - 1):
                tree = nth_tree(calendar, k)
                self.assertEqual(headed(calendar, tree), (k, 1))
                for d in range(len(tree)):
                    first, many = headed(calendar, tree[:d])
                    self.assertEqual(many * heads_many(calendar, d), size(calendar))
                    self.assertLessEqual(first, k)
                    self.assertLess(k, first + many)
                    self.assertEqual(nth_tree(calendar, first)[:d], tree[:d])

    def test_rows_wrong(self):
        self.refused(BadSize, 4, headed, plain(4), HEAD + HEAD)
        self.refused(BadSize, 1, headed, SINGLE, (((0, 1),),))
        self.refused(BadRow, 1, headed, plain(4), (((0, 1),), ((1, 2),)))
        self.refused(BadRow, 0, headed, plain(4), (((0, 1), (2, 3)),))
        self.refused(BadRow, 0, headed, plain(4), (((1, 0),), ((1, 0),)))
        self.refused(BadRow, 0, headed, plain(4), (((0, True),),))
        for odd in ODD + (DEEP, LONG):
            self.refused(BadRow, 1, headed, plain(4), HEAD[:1] + (odd,))

    def test_heads_many(self):
        self.assertEqual([heads_many(plain(4), d) for d in range(4)], [1, 6, 18, 18])
        self.assertEqual(heads_many(SINGLE, 0), 1)
        self.assertEqual(heads_many(PLAIN_TWELVE, 11), size(PLAIN_TWELVE))
        for d in (-1, 4, 10 ** 40):
            self.refused(BadMoment, d, heads_many, plain(4), d)
        self.refused(BadMoment, 1, heads_many, SINGLE, 1)


if __name__ == "__main__":
    unittest.main()
