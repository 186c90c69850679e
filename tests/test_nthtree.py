import unittest

from datedlines.calendarlooks import plain, star
from datedlines.errors import BadCount, BadRow, BadSize
from datedlines.nthtree import nth_tree, tree_rank
from datedlines.numbers import size
from datedlines.trees import is_tree
from support import (LATE, LATE_TWELVE, MIXED, PAIRS, PLAIN_TWELVE, SINGLE, TWO_LEFT, WIDE, Case, listed_trees,
                     small_calendars)

TREE = (((0, 1),), ((2, 3),), ((0, 2),))


class NthTreeTest(Case):
    def test_all_small_ones(self):
        for calendar in small_calendars(4, 2) + [plain(4), plain(5), LATE, TWO_LEFT, PAIRS, MIXED]:
            trees = listed_trees(calendar)
            self.assertEqual([nth_tree(calendar, k) for k in range(len(trees))], trees)
            self.assertEqual([tree_rank(calendar, tree) for tree in trees], list(range(len(trees))))

    def test_edges(self):
        self.assertEqual(nth_tree(SINGLE, 0), ())
        self.assertEqual(tree_rank(SINGLE, ()), 0)
        self.assertEqual(nth_tree(star(12), 0), ((tuple(range(12)),),))
        self.assertEqual(nth_tree(plain(4), 17), (((2, 3),), ((1, 2),), ((0, 1),)))

    def test_twelve_leaves(self):
        for calendar in (PLAIN_TWELVE, WIDE, LATE_TWELVE):
            many = size(calendar)
            for k in sorted({0, many // 7, many // 2, many - 1}):
                tree = nth_tree(calendar, k)
                self.assertIs(is_tree(calendar, tree), True)
                self.assertEqual(tree_rank(calendar, tree), k)
        self.assertEqual(nth_tree(PLAIN_TWELVE, 0), tuple(((0, x),) for x in range(1, 12)))
        self.assertEqual(nth_tree(PLAIN_TWELVE, size(PLAIN_TWELVE) - 1),
                         tuple(((11 - x, 12 - x),) for x in range(1, 12)))

    def test_numbers_wrong(self):
        for k in (-1, 18, 10 ** 60, -10 ** 60):
            self.refused(BadCount, k, nth_tree, plain(4), k)
        self.refused(BadCount, 1, nth_tree, SINGLE, 1)
        self.refused(BadCount, size(PLAIN_TWELVE), nth_tree, PLAIN_TWELVE, size(PLAIN_TWELVE))

    def test_trees_wrong(self):
        self.refused(BadSize, 2, tree_rank, plain(4), TREE[:2])
        self.refused(BadRow, 1, tree_rank, plain(4), (((0, 1),), ((1, 3),), ((0, 2),)))
        self.refused(BadRow, 0, tree_rank, plain(4), (True, True, True))


if __name__ == "__main__":
    unittest.main()
