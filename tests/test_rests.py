import unittest

from datedlines.alive import alive
from datedlines.calendarlooks import plain
from datedlines.calendars import Calendar, made_calendar
from datedlines.errors import BadLeaf, BadMoment, BadRow, BadSize
from datedlines.numbers import size
from datedlines.patterns import ways
from datedlines.rests import bough_tree, rest, rest_tree
from datedlines.trees import is_tree
from support import (LATE, LATE_TWELVE, MIXED, PLAIN_TWELVE, SINGLE, TREE, TWO_LEFT, WIDE, Case, calendar_of,
                     joint_sets, listed_trees, sets_at, small_calendars, unfolded)

LATE_TREE = (((0, 1),), ((2, 3),), ((0, 2, 4),))


def lots_of_rest(calendar, tree, d):
    """For each leaf of rest the set of leaves that it stands for."""
    later = [frozenset([x]) for x, moment in enumerate(calendar.born) if moment > d]
    return [frozenset(lot) for lot in sets_at(calendar, tree, d)] + later


class RestTest(Case):
    def test_rest(self):
        self.assertEqual(rest(plain(4), 1), plain(3))
        self.assertEqual(rest(LATE, 0), LATE)
        self.assertEqual(rest(LATE, 1), Calendar((0, 0, 0, 1), ((2,), (3,))))
        self.assertEqual(rest(LATE, 2), Calendar((0, 0, 0), ((3,),)))
        self.assertEqual(rest(LATE, 3), SINGLE)
        self.assertEqual(rest(TWO_LEFT, 1), Calendar((0, 0, 0, 2), ((2,), (2,))))
        self.assertEqual(rest(TWO_LEFT, 3), Calendar((0, 0), ()))
        self.assertEqual(rest(SINGLE, 0), SINGLE)

    def test_later_leaves_in_their_order(self):
        calendar = calendar_of((2, 1, 0, 2, 0, 1), (2,), (2,))
        self.assertEqual(rest(calendar, 0), Calendar((0, 0, 2, 1, 2, 1), ((2,), (2,))))
        self.assertEqual(rest(calendar, 1), Calendar((0, 0, 0, 1, 1), ((2,),)))

    def test_rest_is_a_calendar_and_size_its_share(self):
        for calendar in small_calendars(4, 3)[::5] + [LATE, TWO_LEFT, MIXED, WIDE, PLAIN_TWELVE, LATE_TWELVE]:
            for d in range(len(calendar.days) + 1):
                found = rest(calendar, d)
                self.assertEqual(made_calendar(found.born, found.days), found)
                ahead = 1
                for e in range(d):
                    ahead *= ways(alive(calendar, e), calendar.days[e])
                self.assertEqual(ahead * size(found), size(calendar))

    def test_rest_tree(self):
        self.assertEqual(rest_tree(plain(4), TREE, 0), TREE)
        self.assertEqual(rest_tree(plain(4), TREE, 1), (((1, 2),), ((0, 1),)))
        self.assertEqual(rest_tree(plain(4), TREE, 3), ())
        self.assertEqual(rest_tree(LATE, LATE_TREE, 1), (((1, 2),), ((0, 1, 3),)))

    def test_names_of_rest_are_found_anew(self):
        # The leaf 0 is born late; at moment 0 the lines 1, 2, 3 are the leaves 0, 1, 2 of the rest, and 0 is 3.
        calendar = calendar_of((1, 0, 0, 0), (2,), (2,), (2,))
        tree = (((1, 2),), ((0, 3),), ((0, 1),))
        self.assertEqual(rest(calendar, 0), Calendar((0, 0, 0, 1), ((2,), (2,), (2,))))
        self.assertEqual(rest_tree(calendar, tree, 0), (((0, 1),), ((2, 3),), ((0, 2),)))

    def test_all_small_rests(self):
        for calendar in small_calendars(4, 2) + [LATE, TWO_LEFT]:
            for tree in listed_trees(calendar):
                for d in range(len(calendar.days) + 1):
                    found = rest_tree(calendar, tree, d)
                    small = rest(calendar, d)
                    self.assertIs(is_tree(small, found), True)
                    lots = lots_of_rest(calendar, tree, d)
                    days = [{unfolded(joint, lots) for joint in day} for day in joint_sets(small, found)]
                    self.assertEqual(days, joint_sets(calendar, tree)[d:])

    def test_wrong(self):
        for d in (-1, 4, 10 ** 40):
            self.refused(BadMoment, d, rest, plain(4), d)
            self.refused(BadMoment, d, rest_tree, plain(4), TREE, d)
            self.refused(BadMoment, d, bough_tree, plain(4), TREE, d, 99)
        self.refused(BadMoment, 1, rest, SINGLE, 1)
        for x in (-1, 4, 10 ** 40):
            self.refused(BadLeaf, x, bough_tree, plain(4), TREE, 0, x)
        self.refused(BadLeaf, 4, bough_tree, LATE, LATE_TREE, 1, 4)
        for function, more in ((rest_tree, (9,)), (bough_tree, (9, 9))):
            self.refused(BadSize, 2, function, plain(4), TREE[:2], *more)
            self.refused(BadRow, 2, function, plain(4), TREE[:2] + ("",), *more)


class BoughTreeTest(Case):
    def test_bough_tree(self):
        self.assertEqual(bough_tree(plain(4), TREE, 3, 1), (plain(4), TREE))
        self.assertEqual(bough_tree(plain(4), TREE, 2, 3), (plain(2), (((0, 1),),)))
        self.assertEqual(bough_tree(plain(4), TREE, 1, 3), (SINGLE, ()))
        self.assertEqual(bough_tree(LATE, LATE_TREE, 2, 4), (SINGLE, ()))
        self.assertEqual(bough_tree(LATE, LATE_TREE, 3, 4), (LATE, LATE_TREE))

    def test_births_are_counted_by_days_of_the_line(self):
        # The days 0 and 2 have groups of the line; day 1 has one of others.
        calendar = calendar_of((0, 0, 0, 0, 2, 0), (2,), (2,), (2,), (3,))
        tree = (((1, 3),), ((0, 2),), ((1, 4),), ((0, 1, 5),))
        small = Calendar((0, 0, 1), ((2,), (2,)))
        self.assertEqual(bough_tree(calendar, tree, 3, 3), (small, (((0, 1),), ((0, 2),))))

    def test_only_the_groups_of_the_line(self):
        calendar = calendar_of((0,) * 7, (3, 2, 2), (2,))
        tree = (((0, 3), (1, 4, 6), (2, 5)), ((0, 1),))
        small = Calendar((0,) * 5, ((3, 2), (2,)))
        self.assertEqual(bough_tree(calendar, tree, 2, 6), (small, (((0, 2), (1, 3, 4)), ((0, 1),))))
        self.assertEqual(bough_tree(calendar, tree, 2, 5), (plain(2), (((0, 1),),)))

    def test_all_small_ones(self):
        for calendar in small_calendars(4, 2) + [LATE, TWO_LEFT]:
            for tree in listed_trees(calendar):
                for d in range(len(calendar.days) + 1):
                    for lot in sets_at(calendar, tree, d):
                        for x in lot:
                            self.assert_bough(calendar, tree, d, sorted(lot), x)

    def assert_bough(self, calendar, tree, d, bough, x):
        small, found = bough_tree(calendar, tree, d, x)
        self.assertEqual(made_calendar(small.born, small.days), small)
        self.assertIs(is_tree(small, found), True)
        lots = [frozenset([leaf]) for leaf in bough]
        days = []
        kept = []
        for e, day in enumerate(joint_sets(calendar, tree)[:d]):
            inner = {joint for joint in day if all(line <= set(bough) for line in joint)}
            if inner:
                days.append(e)
                kept.append(inner)
        self.assertEqual([{unfolded(j, lots) for j in day} for day in joint_sets(small, found)], kept)
        self.assertEqual(small.born, tuple(sum(e < calendar.born[leaf] for e in days) for leaf in bough))

    def test_twelve_leaves(self):
        tree = tuple(((0, x),) for x in range(1, 12))
        self.assertEqual(bough_tree(LATE_TWELVE, tree, 11, 7), (LATE_TWELVE, tree))
        self.assertEqual(bough_tree(LATE_TWELVE, tree, 10, 0)[0], Calendar(LATE_TWELVE.born[:11], ((2,),) * 10))
        self.assertEqual(bough_tree(LATE_TWELVE, tree, 10, 11), (SINGLE, ()))


if __name__ == "__main__":
    unittest.main()
