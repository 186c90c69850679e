import unittest

from datedlines.boughs import ever_bough
from datedlines.calendarlooks import plain, star
from datedlines.calendars import Calendar
from datedlines.errors import BadFamily, TooMany
from datedlines.numbers import size
from datedlines.toldboughs import told_boughs, told_share
from support import (LATE, LATE_MANY, LATE_TWELVE, MIXED, PAIRS, PLAIN_TWELVE, SINGLE, TWO_LEFT, WIDE, WRONG_FAMILIES,
                     Case, behind_all, families_of, lowest, small_calendars, subsets)


class ToldBoughsTest(Case):
    def test_told_boughs(self):
        for family, many in ((((0, 1),), 4), (((0, 1), (2, 3)), 2), (((0, 1), (0, 1, 2)), 1)):
            self.assertEqual(told_boughs(plain(4), family), many)
            self.assertEqual(told_share(plain(4), family), lowest(many, 18))
        self.assertEqual(told_boughs(star(12), (tuple(range(12)),)), 1)

    def test_never(self):
        self.assertEqual(told_boughs(Calendar((0, 0), ()), ((0, 1),)), 0)
        self.assertEqual(told_share(Calendar((0, 0), ()), ((0, 1),)), (0, 1))
        self.assertEqual(told_boughs(TWO_LEFT, ((0, 4),)), 0)

    def test_against_all_trees(self):
        for calendar in small_calendars(4, 3) + small_calendars(5, 2)[::40] + [LATE, TWO_LEFT, PAIRS]:
            self.assert_counts(calendar, families_of(len(calendar.born)))

    def test_groups_of_several_sizes(self):
        families = [((0, 1, 2), (3, 4, 5)), ((0, 1), (2, 3), (0, 1, 2, 3)), ((2, 4), (0, 2, 4), (3, 5)), ((5, 6),),
                    ((0, 1, 2, 3, 4), (5, 6)), ((0, 1, 2, 3, 4, 5),), ((0, 6), (1, 2), (3, 4, 5), (1, 2, 3, 4, 5))]
        self.assert_counts(MIXED, families)
        self.assert_counts(Calendar((0, 0, 0, 0, 1, 1, 2), ((2, 2), (2, 2), (2,))), families)

    def assert_counts(self, calendar, families):
        lines = [{lot for lots in behind for lot in lots} for behind in behind_all(calendar)]
        for family in families:
            told = len([found for found in lines if all(frozenset(some) in found for some in family)])
            self.assertEqual(told_boughs(calendar, family), told)
            self.assertEqual(told_share(calendar, family), lowest(told, len(lines)))

    def test_twelve_leaves(self):
        # The last of the eleven days joins both halves; each of them is one of 2700 trees of six leaves.
        halves = (tuple(range(6)), tuple(range(6, 12)))
        self.assertEqual(told_boughs(PLAIN_TWELVE, halves), 252 * size(plain(6)) ** 2)
        quarters = ((0, 1, 2), (3, 4, 5), (6, 7, 8), (9, 10, 11))
        self.assertGreater(told_boughs(PLAIN_TWELVE, quarters), 0)
        self.assertEqual(told_boughs(Calendar((0,) * 12, ((3, 3, 3, 3), (2, 2), (2,))), quarters), 3)
        chain = ((0, 1), (0, 1, 2, 3, 4), tuple(range(8)), tuple(range(12)))
        for calendar in (PLAIN_TWELVE, WIDE, LATE_TWELVE, LATE_MANY):
            self.assertLessEqual(told_boughs(calendar, chain), told_boughs(calendar, chain[:3]))
            for some in subsets((0, 3, 5, 6, 9), 2):
                self.assertEqual(told_share(calendar, (some,)), ever_bough(calendar, some))
        self.assertEqual(told_boughs(LATE_TWELVE, chain), 1)

    def test_wrong(self):
        for function in (told_boughs, told_share):
            for family, error, what in WRONG_FAMILIES:
                self.refused(error, what, function, plain(4), family)
            self.refused(TooMany, 0, function, SINGLE, ())
            self.refused(BadFamily, 0, function, SINGLE, ((0, 1),))


if __name__ == "__main__":
    unittest.main()
