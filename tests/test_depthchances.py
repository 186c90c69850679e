import unittest

from datedlines.calendarlooks import plain, star
from datedlines.depthchances import bough_mean, depth_chances, depth_mean
from datedlines.errors import BadLeaf, BadMoment
from support import (LATE, LATE_MANY, LATE_TWELVE, PLAIN_TWELVE, SINGLE, TWO_LEFT, WIDE, Case, chance_calendars,
                     line_of, listed_chances, listed_mean)


def joints_with(behind, x):
    """In how many joints the leaf x is: how often its line has grown."""
    sizes = [1] + [len(line_of(lots, x)) for lots in behind if line_of(lots, x)]
    return len([one for one, two in zip(sizes, sizes[1:]) if one != two])


def leaves_ahead(behind, d, x):
    """How many leaves the line with x has ahead of day d."""
    return len((line_of(behind[d - 1], x) if d > 0 else None) or {x})


class BoughMeanTest(Case):
    def test_bough_mean(self):
        for x in range(4):
            self.assertEqual(bough_mean(plain(4), 0, x), (1, 1))
            self.assertEqual(bough_mean(plain(4), 1, x), (3, 2))
            self.assertEqual(bough_mean(plain(4), 3, x), (4, 1))
        self.assertEqual(bough_mean(SINGLE, 0, 0), (1, 1))
        self.assertEqual(bough_mean(TWO_LEFT, 3, 4), (1, 1))
        self.assertEqual(bough_mean(LATE, 3, 4), (5, 1))

    def test_against_all_trees(self):
        for calendar in chance_calendars():
            for d in range(len(calendar.days) + 1):
                for x, moment in enumerate(calendar.born):
                    if moment <= d:
                        told = listed_mean(calendar, lambda behind: leaves_ahead(behind, d, x))
                        self.assertEqual(bough_mean(calendar, d, x), told)

    def test_twelve_leaves(self):
        self.assertEqual(bough_mean(PLAIN_TWELVE, 11, 0), (12, 1))
        self.assertEqual(bough_mean(PLAIN_TWELVE, 1, 0), (7, 6))
        self.assertEqual(bough_mean(LATE_TWELVE, 10, 0), (11, 1))
        self.assertEqual(bough_mean(LATE_TWELVE, 10, 11), (1, 1))

    def test_wrong(self):
        for d in (-1, 4, 10 ** 40):
            self.refused(BadMoment, d, bough_mean, plain(4), d, 99)
        for x in (-1, 4, 10 ** 40):
            self.refused(BadLeaf, x, bough_mean, plain(4), 0, x)
        self.refused(BadLeaf, 4, bough_mean, LATE, 1, 4)
        self.refused(BadLeaf, 4, bough_mean, TWO_LEFT, 2, 4)


class DepthChancesTest(Case):
    def test_depth_chances(self):
        self.assertEqual(depth_chances(plain(4), 0), ((1, (1, 6)), (2, (1, 2)), (3, (1, 3))))
        self.assertEqual(depth_mean(plain(4), 0), (13, 6))
        self.assertEqual(depth_chances(star(12), 7), ((1, (1, 1)),))

    def test_leaves_that_meet_nobody(self):
        self.assertEqual(depth_chances(SINGLE, 0), ((0, (1, 1)),))
        self.assertEqual(depth_mean(SINGLE, 0), (0, 1))
        self.assertEqual(depth_chances(TWO_LEFT, 4), ((0, (1, 1)),))
        self.assertEqual(depth_mean(TWO_LEFT, 4), (0, 1))

    def test_against_all_trees(self):
        for calendar in chance_calendars():
            for x in range(len(calendar.born)):
                told = listed_chances(calendar, lambda behind: joints_with(behind, x))
                self.assertEqual(depth_chances(calendar, x), told)
                self.assertEqual(depth_mean(calendar, x), listed_mean(calendar, lambda behind: joints_with(behind, x)))

    def test_twelve_leaves(self):
        for calendar in (PLAIN_TWELVE, WIDE, LATE_TWELVE, LATE_MANY):
            for x in range(12):
                self.assert_chances(depth_chances(calendar, x))
        self.assertEqual(depth_chances(LATE_TWELVE, 0), ((11, (1, 1)),))
        self.assertEqual(depth_chances(PLAIN_TWELVE, 0)[0], (1, (1, 66)))
        self.assertEqual(depth_mean(PLAIN_TWELVE, 0), (58301, 13860))

    def test_wrong(self):
        for x in (-1, 4, 10 ** 40):
            self.refused(BadLeaf, x, depth_chances, plain(4), x)
            self.refused(BadLeaf, x, depth_mean, plain(4), x)


if __name__ == "__main__":
    unittest.main()
