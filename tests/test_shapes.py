import unittest

from datedlines.calendarlooks import plain, star
from datedlines.calendars import Calendar
from datedlines.errors import BadRow, BadShape, BadSize
from datedlines.nthtree import nth_tree
from datedlines.numbers import size
from datedlines.shapes import made_wood, shape_of
from support import (DEEP, LATE, LATE_MANY, LATE_TWELVE, LONG, MIXED, NO_WOODS, ODD, PAIRS, PLAIN_TWELVE, SINGLE,
                     TWO_LEFT, WIDE, Case, all_woods, chance_calendars, joint_sets, listed_trees, sets_at)

TREE = (((0, 1),), ((2, 3),), ((0, 2),))


def wood_from_sets(calendar, tree):
    """The wood of a tree from the sets of leaves that meet."""
    parts_of = {frozenset().union(*joint): joint for day in joint_sets(calendar, tree) for joint in day}

    def shape(lot):
        if len(lot) == 1:
            return min(lot)
        return tuple(shape(part) for part in sorted(parts_of[lot], key=min))
    return tuple(shape(frozenset(lot)) for lot in sets_at(calendar, tree, len(tree)))


class ShapeOfTest(Case):
    def test_shape_of(self):
        self.assertEqual(shape_of(plain(4), TREE), (((0, 1), (2, 3)),))
        self.assertEqual(shape_of(SINGLE, ()), (0,))
        self.assertEqual(shape_of(Calendar((0, 0, 0), ()), ()), (0, 1, 2))
        self.assertEqual(shape_of(star(12), ((tuple(range(12)),),)), (tuple(range(12)),))
        self.assertEqual(shape_of(PAIRS, (((0, 2), (1, 3)), ((0, 1),))), (((0, 2), (1, 3)),))
        self.assertEqual(shape_of(TWO_LEFT, (((1, 3),), ((0, 2),), ((0, 1),))), (((0, 2), (1, 3)), 4))

    def test_against_all_trees(self):
        for calendar in chance_calendars():
            for tree in listed_trees(calendar):
                self.assertEqual(shape_of(calendar, tree), wood_from_sets(calendar, tree))

    def test_twelve_leaves(self):
        for calendar in (PLAIN_TWELVE, WIDE, LATE_TWELVE, LATE_MANY):
            for k in (0, size(calendar) // 3, size(calendar) - 1):
                tree = nth_tree(calendar, k)
                wood = shape_of(calendar, tree)
                self.assertEqual(wood, wood_from_sets(calendar, tree))
                self.assertIs(made_wood(12, wood), wood)

    def test_trees_wrong(self):
        self.refused(BadSize, 2, shape_of, plain(4), TREE[:2])
        for odd in ODD:
            self.refused(BadRow, 1, shape_of, plain(4), (TREE[0], odd, TREE[2]))


class MadeWoodTest(Case):
    def test_made_wood(self):
        for n, wood in ((1, (0,)), (2, (0, 1)), (2, ((0, 1),)), (3, ((0, 2), 1)), (4, (0, (1, 3), 2)),
                        (12, tuple(range(12))), (12, (tuple(range(12)),)), (4, (((0, 3), (1, 2)),))):
            self.assertEqual(made_wood(n, wood), wood)

    def test_all_small_woods(self):
        for n in range(1, 6):
            for wood in all_woods(n):
                self.assertEqual(made_wood(n, wood), wood)
                self.refused(BadShape, 0, made_wood, n + 1, wood)
                self.refused(BadShape, 0, made_wood, n, wood + (n,))

    def test_chains_of_twelve(self):
        wood = 11
        for x in range(10, -1, -1):
            wood = (x, wood)
        self.assertEqual(made_wood(12, (wood,)), (wood,))
        self.refused(BadShape, 0, made_wood, 11, (wood,))

    def test_no_woods(self):
        for thing in NO_WOODS + ODD + (DEEP, LONG):
            for n in (1, 2, 3, 12):
                self.refused(BadShape, 0, made_wood, n, thing)

    def test_sizes_wrong(self):
        for n in (0, 13, -1, 10 ** 40):
            self.refused(BadSize, n, made_wood, n, "no wood")


if __name__ == "__main__":
    unittest.main()
