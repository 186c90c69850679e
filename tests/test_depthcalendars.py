import unittest
from itertools import permutations, product

from datedlines.calendarlooks import is_level, plain, star
from datedlines.calendars import Calendar, made_calendar
from datedlines.depthcalendars import depth_calendar, depths_of
from datedlines.depths import depth_rows, kraft
from datedlines.errors import BadCount, BadDepth, BadSize, NotWhole
from datedlines.nthtree import nth_tree
from datedlines.numbers import size
from datedlines.treeroads import depth
from support import (LATE, LATE_MANY, MIXED, PLAIN_TWELVE, SINGLE, TWO_LEFT, Case, all_woods, sets_at,
                     small_calendars, trees_of)


def bad_level(depths, r):
    """The level that NotWhole tells, None if the depths are whole, from the lines of each level at once."""
    deepest = max(depths)
    lines = {deepest: depths.count(deepest)}
    for h in range(deepest - 1, -1, -1):
        lines[h] = depths.count(h) + lines[h + 1] // r
    uneven = [h for h in range(1, deepest + 1) if lines[h] % r]
    if uneven:
        return max(uneven)
    return None if lines[0] == 1 else 0


def depths_in(shape, level, found):
    """The depths of the leaves of a shape, and the numbers of parts of its joints."""
    if isinstance(shape, tuple):
        return {len(shape)}.union(*[depths_in(part, level + 1, found) for part in shape])
    found[shape] = level
    return set()


class DepthCalendarTest(Case):
    def test_depth_calendar(self):
        self.assertEqual(depth_calendar((1, 2, 2), 2), Calendar((1, 0, 0), ((2,), (2,))))
        self.assertEqual(size(depth_calendar((1, 2, 2), 2)), 1)
        self.assertEqual(depth_calendar((2, 2, 2, 2), 2), Calendar((0,) * 4, ((2, 2), (2,))))
        self.assertEqual(size(depth_calendar((2, 2, 2, 2), 2)), 3)
        self.assertEqual(depth_calendar((2, 1, 2, 2, 1), 3), Calendar((0, 1, 0, 0, 1), ((3,), (3,))))

    def test_edges(self):
        for r in range(2, 13):
            self.assertEqual(depth_calendar((0,), r), SINGLE)
            self.assertEqual(depth_calendar((1,) * r, r), star(r))
        deep = (11, 11, 10, 9, 8, 7, 6, 5, 4, 3, 2, 1)
        self.assertEqual(depth_calendar(deep, 2), Calendar((0, 0, 1, 2, 3, 4, 5, 6, 7, 8, 9, 10), ((2,),) * 11))
        self.assertEqual(depth_calendar(deep[::-1], 2).born, (10, 9, 8, 7, 6, 5, 4, 3, 2, 1, 0, 0))

    def test_not_whole(self):
        for depths, r, h in (((1, 1, 1), 2, 1), ((0, 0), 2, 0), ((0, 1, 1), 2, 0), ((11,), 2, 11), ((11, 11), 2, 10),
                             ((1,) * 11, 12, 1), ((2, 2, 1, 1), 2, 1), ((3, 2, 2), 2, 3), ((1,) * 4, 2, 0),
                             ((0,) * 12, 12, 0), ((5, 5, 5, 1), 3, 4), ((1,), 2, 1)):
            self.refused(NotWhole, h, depth_calendar, depths, r)

    def test_whole_just_if_kraft_is_one(self):
        for n in range(1, 6):
            for depths in product(range(5), repeat=n):
                for r in (2, 3, 4):
                    h = bad_level(depths, r)
                    self.assertIs(h is None, kraft(depths, r) == (1, 1))
                    if h is None:
                        self.assert_whole(depths, r)
                    else:
                        self.refused(NotWhole, h, depth_calendar, depths, r)

    def assert_whole(self, depths, r):
        calendar = depth_calendar(depths, r)
        self.assertEqual(made_calendar(calendar.born, calendar.days), calendar)
        self.assertIs(is_level(calendar), True)
        self.assertEqual({s for pattern in calendar.days for s in pattern}, {r} if calendar.days else set())
        self.assertEqual(depths_of(calendar, nth_tree(calendar, size(calendar) - 1)), depths)

    def test_all_whole_rows(self):
        for n in range(1, 13):
            for r in range(2, 13):
                for depths in depth_rows(n, r):
                    self.assert_whole(depths, r)
                    self.assert_whole(depths[1:] + depths[:1], r)

    def test_just_the_trees_with_these_depths(self):
        # A tree of one line tells by the depth of each joint on which day it stands, so woods may be counted.
        for n in range(1, 7):
            many = {}
            for wood in [wood for wood in all_woods(n) if len(wood) == 1]:
                found = {}
                parts = depths_in(wood[0], 0, found)
                place = (tuple(found[x] for x in range(n)), tuple(parts))
                many[place] = many.get(place, 0) + 1
            for r in (2, 3, 4):
                for row in depth_rows(n, r):
                    for depths in set(permutations(row)):
                        parts = (r,) if n > 1 else ()
                        self.assertEqual(size(depth_calendar(depths, r)), many[(depths, parts)])

    def test_wrong(self):
        for depths in ((), (0,) * 13, (99,) * 13):
            self.refused(BadSize, len(depths), depth_calendar, depths, 99)
        for depths, i in (((12,), 0), ((-1, 12), 0), ((1, 1, 10 ** 40), 2), ((0, -1), 1)):
            self.refused(BadDepth, i, depth_calendar, depths, 1)
        for r in (1, 13, 0, -2, 10 ** 40):
            self.refused(BadCount, r, depth_calendar, (1, 1, 1), r)


class DepthsOfTest(Case):
    def test_depths_of(self):
        self.assertEqual(depths_of(plain(4), (((0, 1),), ((2, 3),), ((0, 2),))), (2, 2, 2, 2))
        self.assertEqual(depths_of(plain(4), (((0, 1),), ((0, 2),), ((0, 3),))), (3, 3, 2, 1))
        self.assertEqual(depths_of(SINGLE, ()), (0,))
        self.assertEqual(depths_of(TWO_LEFT, (((0, 1),), ((2, 3),), ((0, 2),))), (2, 2, 2, 2, 0))

    def test_against_joints_of_sets(self):
        for calendar in small_calendars(4, 2) + [LATE, TWO_LEFT, plain(5)]:
            for tree in trees_of(calendar):
                found = depths_of(calendar, tree)
                for x in range(len(calendar.born)):
                    days = []
                    for d, row in enumerate(tree):
                        names = [name for group in row for name in group]
                        days.extend([d for lot in sets_at(calendar, tree, d) if x in lot and min(lot) in names])
                    self.assertEqual(found[x], len(days))

    def test_twelve_leaves(self):
        for calendar in (PLAIN_TWELVE, LATE_MANY, MIXED):
            tree = nth_tree(calendar, size(calendar) // 3)
            leaves = range(len(calendar.born))
            self.assertEqual(depths_of(calendar, tree), tuple(depth(calendar, tree, x) for x in leaves))

    def test_trees_wrong(self):
        self.refuses_trees(depths_of)


if __name__ == "__main__":
    unittest.main()
