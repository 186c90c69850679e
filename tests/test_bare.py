import unittest

from datedlines.bare import bare, first_met, sisters, twins
from datedlines.calendarlooks import plain, star
from datedlines.calendars import Calendar
from datedlines.errors import BadLeaf, BadMoment, BadSet
from support import (LATE, LATE_MANY, LATE_TWELVE, PAIRS, PLAIN_TWELVE, SINGLE, TWO_LEFT, WIDE, Case,
                     chance_calendars, first_of, line_of, listed_chances, listed_mean)


def pairs_of_leaves(behind):
    """How many groups of two single leaves a tree has."""
    return len({lot for lots in behind for lot in lots if len(lot) == 2})


class BareTest(Case):
    def test_bare(self):
        self.assertEqual(bare(plain(4), 0), ((2, (1, 1)),))
        self.assertEqual(bare(plain(4), 1), ((0, (1, 3)), (1, (2, 3))))
        self.assertEqual(bare(plain(4), 2), ((0, (1, 1)),))
        self.assertEqual(bare(TWO_LEFT, 0), ((1, (1, 1)),))

    def test_against_all_trees(self):
        for calendar in chance_calendars():
            for d in range(len(calendar.days)):
                told = listed_chances(calendar, lambda behind: len([lot for lot in behind[d] if len(lot) == 1]))
                self.assertEqual(bare(calendar, d), told)

    def test_twelve_leaves(self):
        for calendar in (PLAIN_TWELVE, WIDE, LATE_TWELVE, LATE_MANY):
            for d in range(len(calendar.days)):
                self.assert_chances(bare(calendar, d))
        self.assertEqual(bare(PLAIN_TWELVE, 0), ((10, (1, 1)),))
        self.assertEqual(bare(LATE_TWELVE, 10), ((0, (1, 1)),))

    def test_wrong(self):
        for d in (-1, 3, 10 ** 40):
            self.refused(BadMoment, d, bare, plain(4), d)
        self.refused(BadMoment, 0, bare, SINGLE, 0)


class FirstMetTest(Case):
    def test_first_met(self):
        for x in range(4):
            self.assertEqual(first_met(plain(4), x), ((0, (1, 2)), (1, (1, 3)), (2, (1, 6))))
        self.assertEqual(first_met(LATE, 4), ((2, (1, 1)),))

    def test_never(self):
        self.assertEqual(first_met(SINGLE, 0), ((0, (1, 1)),))
        self.assertEqual(first_met(TWO_LEFT, 4), ((3, (1, 1)),))

    def test_against_all_trees(self):
        for calendar in chance_calendars():
            for x in range(len(calendar.born)):
                grown = (lambda d, lots: len(line_of(lots, x) or ()) > 1)
                told = listed_chances(calendar, lambda behind: first_of(behind, grown))
                self.assertEqual(first_met(calendar, x), told)

    def test_twelve_leaves(self):
        for calendar in (PLAIN_TWELVE, WIDE, LATE_TWELVE, LATE_MANY):
            for x in range(12):
                self.assert_chances(first_met(calendar, x))
        self.assertEqual(first_met(PLAIN_TWELVE, 5)[0], (0, (1, 6)))
        self.assertEqual(first_met(LATE_MANY, 11), ((7, (1, 1)),))

    def test_wrong(self):
        for x in (-1, 4, 10 ** 40):
            self.refused(BadLeaf, x, first_met, plain(4), x)


class SistersTest(Case):
    def test_sisters(self):
        self.assertEqual(sisters(plain(4), 0, 1), (2, 9))
        self.assertEqual(sisters(plain(2), 1, 0), (1, 1))
        self.assertEqual(sisters(star(3), 0, 1), (0, 1))
        self.assertEqual(sisters(TWO_LEFT, 0, 4), (0, 1))

    def test_against_all_trees(self):
        for calendar in chance_calendars():
            for x in range(len(calendar.born)):
                for y in range(len(calendar.born)):
                    if x != y:
                        pair = frozenset([x, y])
                        told = listed_mean(calendar, lambda behind: any(pair in lots for lots in behind))
                        self.assertEqual(sisters(calendar, x, y), told)

    def test_wrong(self):
        for x in (-1, 5, 10 ** 40):
            self.refused(BadLeaf, x, sisters, LATE, x, x)
            self.refused(BadLeaf, x, sisters, LATE, 0, x)
        self.refused(BadSet, 3, sisters, LATE, 3, 3)
        self.refused(BadSet, 0, sisters, SINGLE, 0, 0)


class TwinsTest(Case):
    def test_twins(self):
        self.assertEqual(twins(plain(4)), (4, 3))
        self.assertEqual(twins(PAIRS), (2, 1))
        self.assertEqual(twins(SINGLE), (0, 1))
        self.assertEqual(twins(Calendar((0, 0, 0), ())), (0, 1))
        self.assertEqual(twins(star(3)), (0, 1))

    def test_against_all_trees(self):
        for calendar in chance_calendars():
            self.assertEqual(twins(calendar), listed_mean(calendar, pairs_of_leaves))

    def test_twelve_leaves(self):
        self.assertEqual(twins(PLAIN_TWELVE), (4, 1))
        self.assertEqual(twins(LATE_TWELVE), (1, 1))
        self.assertEqual(twins(Calendar((0,) * 12, ((2,) * 6,))), (6, 1))


if __name__ == "__main__":
    unittest.main()
