import unittest
from itertools import combinations

from datedlines.calendarlooks import plain, star
from datedlines.errors import BadLeaf, BadRow, BadSet, BadSize
from datedlines.treeroads import depth, joints, met_on, path
from support import LATE, SINGLE, TWO_LEFT, Case, listed_trees, sets_behind, small_calendars

TREE = (((0, 1),), ((2, 3),), ((0, 2),))
LATE_TREE = (((0, 1),), ((2, 3),), ((0, 2, 4),))


def first_day(calendar, tree, x, y):
    """The first day behind which both leaves are in one line."""
    for d in range(len(tree)):
        if any({x, y} <= lot for lot in sets_behind(calendar, tree, d)):
            return d
    return None


class TreeRoadsTest(Case):
    def test_met_on(self):
        self.assertEqual([met_on(plain(4), TREE, 0, y) for y in (1, 2, 3)], [0, 2, 2])
        self.assertEqual(met_on(plain(4), TREE, 3, 2), 1)
        self.assertEqual(met_on(LATE, LATE_TREE, 4, 1), 2)
        self.assertIs(met_on(TWO_LEFT, (((0, 1),), ((0, 2),), ((0, 3),)), 0, 4), None)

    def test_joints(self):
        self.assertEqual(joints(SINGLE, ()), ())
        self.assertEqual(joints(star(3), (((0, 1, 2),),)), ((0, (0, 1, 2), (0, 1, 2)),))
        expected = ((0, (0, 1), (0, 1)), (1, (2, 3), (2, 3)), (2, (0, 2, 4), (0, 1, 2, 3, 4)))
        self.assertEqual(joints(LATE, LATE_TREE), expected)

    def test_depth_and_path(self):
        self.assertEqual(path(LATE, LATE_TREE, 4), (2,))
        self.assertEqual(path(LATE, LATE_TREE, 3), (1, 2))
        self.assertEqual(path(plain(4), TREE, 0), (0, 2))
        self.assertEqual(path(TWO_LEFT, (((0, 1),), ((0, 2),), ((0, 3),)), 4), ())
        self.assertEqual(depth(plain(4), TREE, 0), 2)
        self.assertEqual(depth(SINGLE, (), 0), 0)

    def test_all_small_ones(self):
        for calendar in small_calendars(4, 2):
            for tree in listed_trees(calendar):
                self.assert_joints(calendar, tree)
                for x, y in combinations(range(len(calendar.born)), 2):
                    self.assertEqual(met_on(calendar, tree, x, y), first_day(calendar, tree, x, y))
                    self.assertEqual(met_on(calendar, tree, y, x), first_day(calendar, tree, x, y))

    def assert_joints(self, calendar, tree):
        expected = []
        for d, row in enumerate(tree):
            for lot in sets_behind(calendar, tree, d):
                for group in row:
                    if min(lot) == group[0]:
                        expected.append((d, group, tuple(sorted(lot))))
        self.assertEqual(joints(calendar, tree), tuple(sorted(expected)))
        for x in range(len(calendar.born)):
            days = [d for d, _, leaves in expected if x in leaves]
            self.assertEqual(path(calendar, tree, x), tuple(sorted(days)))
            self.assertEqual(depth(calendar, tree, x), len(days))

    def test_the_two_greatest_of_three_are_equal(self):
        for calendar in small_calendars(4, 2):
            for tree in listed_trees(calendar):
                for three in combinations(range(len(calendar.born)), 3):
                    days = [met_on(calendar, tree, x, y) for x, y in combinations(three, 2)]
                    days = sorted(99 if d is None else d for d in days)
                    self.assertEqual(days[1], days[2])

    def test_wrong_leaves(self):
        for x in (-1, 4, 10 ** 40):
            self.refused(BadLeaf, x, met_on, plain(4), TREE, x, 77)
            self.refused(BadLeaf, x, met_on, plain(4), TREE, 1, x)
            self.refused(BadLeaf, x, depth, plain(4), TREE, x)
            self.refused(BadLeaf, x, path, plain(4), TREE, x)
        self.refused(BadSet, 0, met_on, plain(4), TREE, 0, 0)
        self.refused(BadSet, 3, met_on, plain(4), TREE, 3, 3)
        self.refused(BadLeaf, 9, met_on, plain(4), TREE, 9, 9)

    def test_the_tree_is_asked_first(self):
        for function, more in ((met_on, (9, 9)), (joints, ()), (depth, (9,)), (path, (9,))):
            self.refused(BadSize, 1, function, plain(4), TREE[:1], *more)
            self.refused(BadRow, 1, function, plain(4), (((0, 1),), ((1, 2),), "x"), *more)


if __name__ == "__main__":
    unittest.main()
