import unittest
from itertools import permutations

from datedlines.calendarlooks import plain
from datedlines.calendars import renamed
from datedlines.errors import BadLeaf, BadRow, BadSize
from datedlines.treelooks import renamed_tree
from datedlines.trees import is_tree
from support import LATE, SINGLE, TWO_LEFT, Case, joint_sets, listed_trees, small_calendars

TREE = (((0, 1),), ((2, 3),), ((0, 2),))
LATE_TREE = (((0, 1),), ((2, 3),), ((0, 2, 4),))


def moved(joint, places):
    return frozenset(frozenset(places[x] for x in lot) for lot in joint)


class TreeLooksTest(Case):
    def test_renamed_tree(self):
        self.assertEqual(renamed_tree(SINGLE, (), (0,)), ())
        self.assertEqual(renamed_tree(plain(4), TREE, (0, 1, 2, 3)), TREE)
        self.assertEqual(renamed_tree(plain(4), TREE, (3, 1, 0, 2)), (((1, 3),), ((0, 2),), ((0, 1),)))
        self.assertEqual(renamed_tree(LATE, LATE_TREE, (4, 3, 2, 1, 0)), (((3, 4),), ((1, 2),), ((0, 1, 3),)))

    def test_all_small_ones(self):
        for calendar in small_calendars(4, 2)[::3]:
            for tree in listed_trees(calendar):
                for places in permutations(range(len(calendar.born))):
                    self.assert_renamed(calendar, tree, places)

    def assert_renamed(self, calendar, tree, places):
        other = renamed(calendar, places)
        found = renamed_tree(calendar, tree, places)
        self.assertIs(is_tree(other, found), True)
        expected = [{moved(joint, places) for joint in day} for day in joint_sets(calendar, tree)]
        self.assertEqual(joint_sets(other, found), expected)

    def test_wrong(self):
        self.refused(BadSize, 3, renamed_tree, plain(4), TREE, (0, 1, 9))
        self.refused(BadSize, 5, renamed_tree, plain(4), TREE, (0, 1, 2, 3, 4))
        self.refused(BadLeaf, 3, renamed_tree, plain(4), TREE, (0, 1, 2, 1))
        self.refused(BadLeaf, 1, renamed_tree, plain(4), TREE, (0, 4, 0, -1))
        self.refused(BadLeaf, 2, renamed_tree, TWO_LEFT, (((0, 1),), ((0, 2),), ((0, 3),)), (0, 1, -1, 5, 5))

    def test_the_tree_is_asked_first(self):
        self.refused(BadSize, 2, renamed_tree, plain(4), TREE[:2], (7,))
        self.refused(BadRow, 2, renamed_tree, plain(4), TREE[:2] + (True,), (7,))


if __name__ == "__main__":
    unittest.main()
