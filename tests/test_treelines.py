import unittest

from datedlines.calendarlooks import plain
from datedlines.errors import BadLeaf, BadMoment, BadRow, BadSize
from datedlines.treelines import behind_lines, bough_of, lines
from support import (LATE, PLAIN_TWELVE, SINGLE, TWO_LEFT, Case, listed_trees, sets_at, sets_behind,
                     small_calendars)

TREE = (((0, 1),), ((2, 3),), ((0, 2),))
LATE_TREE = (((0, 1),), ((2, 3),), ((0, 2, 4),))


def tuples(lots):
    return tuple(tuple(sorted(lot)) for lot in lots)


class TreeLinesTest(Case):
    def test_lines(self):
        self.assertEqual(lines(plain(4), TREE, 0), ((0,), (1,), (2,), (3,)))
        self.assertEqual(lines(plain(4), TREE, 1), ((0, 1), (2,), (3,)))
        self.assertEqual(lines(plain(4), TREE, 2), ((0, 1), (2, 3)))
        self.assertEqual(lines(plain(4), TREE, 3), ((0, 1, 2, 3),))
        self.assertEqual(lines(SINGLE, (), 0), ((0,),))

    def test_newcomers(self):
        self.assertEqual(lines(LATE, LATE_TREE, 0), ((0,), (1,)))
        self.assertEqual(behind_lines(LATE, LATE_TREE, 0), ((0, 1),))
        self.assertEqual(lines(LATE, LATE_TREE, 1), ((0, 1), (2,), (3,)))
        self.assertEqual(behind_lines(LATE, LATE_TREE, 1), ((0, 1), (2, 3)))
        self.assertEqual(lines(LATE, LATE_TREE, 2), ((0, 1), (2, 3), (4,)))
        tree = (((0, 3),), ((1, 2),), ((0, 1),))
        self.assertEqual(behind_lines(TWO_LEFT, tree, 2), ((0, 1, 2, 3),))
        self.assertEqual(lines(TWO_LEFT, tree, 3), ((0, 1, 2, 3), (4,)))

    def test_all_small_ones(self):
        for calendar in small_calendars(4, 2):
            m = len(calendar.days)
            for tree in listed_trees(calendar):
                for d in range(m + 1):
                    lots = sets_at(calendar, tree, d)
                    self.assertEqual(lines(calendar, tree, d), tuples(lots))
                    for x in range(len(calendar.born)):
                        self.assert_bough(calendar, tree, d, x, lots)
                for d in range(m):
                    self.assertEqual(behind_lines(calendar, tree, d), tuples(sets_behind(calendar, tree, d)))

    def assert_bough(self, calendar, tree, d, x, lots):
        if calendar.born[x] <= d:
            expected = [tuple(sorted(lot)) for lot in lots if x in lot][0]
            self.assertEqual(bough_of(calendar, tree, d, x), expected)
        else:
            self.refused(BadLeaf, x, bough_of, calendar, tree, d, x)

    def test_twelve_leaves(self):
        tree = tuple(((11 - x, 12 - x),) for x in range(1, 12))
        self.assertEqual(lines(PLAIN_TWELVE, tree, 4)[-1], (7, 8, 9, 10, 11))
        self.assertEqual(bough_of(PLAIN_TWELVE, tree, 11, 5), tuple(range(12)))

    def test_wrong_moments(self):
        for d in (-1, 4, 10 ** 40):
            self.refused(BadMoment, d, lines, plain(4), TREE, d)
            self.refused(BadMoment, d, behind_lines, plain(4), TREE, d)
            self.refused(BadMoment, d, bough_of, plain(4), TREE, d, 99)
        self.refused(BadMoment, 3, behind_lines, plain(4), TREE, 3)
        self.refused(BadMoment, 0, behind_lines, SINGLE, (), 0)

    def test_wrong_leaves(self):
        for x in (-1, 4, 10 ** 40):
            self.refused(BadLeaf, x, bough_of, plain(4), TREE, 0, x)
        self.refused(BadLeaf, 4, bough_of, LATE, LATE_TREE, 1, 4)
        self.assertEqual(bough_of(LATE, LATE_TREE, 2, 4), (4,))

    def test_the_tree_is_asked_first(self):
        for function, more in ((lines, (9,)), (behind_lines, (9,)), (bough_of, (9, 9))):
            self.refused(BadSize, 1, function, plain(4), TREE[:1], *more)
            self.refused(BadRow, 1, function, plain(4), (((0, 1),), ((1, 2),), "x"), *more)


if __name__ == "__main__":
    unittest.main()
