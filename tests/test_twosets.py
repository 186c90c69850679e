import unittest

from datedlines.calendarlooks import plain, star
from datedlines.calendars import Calendar
from datedlines.errors import BadFamily, BadMoment, BadSet
from datedlines.meetings import meeting
from datedlines.twosets import first_mix, two_sets
from support import (LATE, LATE_MANY, LATE_TWELVE, MIXED, PAIRS, PLAIN_TWELVE, SINGLE, TWO_LEFT, WIDE, WRONG_SETS, Case,
                     first_of, listed_chances, small_calendars, subsets)

TWELVE = (PLAIN_TWELVE, WIDE, LATE_TWELVE, LATE_MANY, Calendar((0,) * 12, ((2,) * 6, (2,) * 3, (3,))),
          Calendar((0,) * 12, ((4, 4, 2), (3, 2))))


def pairs_of_sets(calendar):
    """All pairs of sets without a common leaf; of MIXED some of them."""
    sets = subsets(range(len(calendar.born)))
    if calendar == MIXED:
        sets = [(0,), (1, 6), (0, 2), (2, 3, 4), (0, 1, 2, 5), (3, 4, 5, 6)]
    return [(one, two) for one in sets for two in sets if not set(one) & set(two)]


def chance_calendars_here():
    return small_calendars(4, 3) + small_calendars(5, 2)[::9] + [LATE, TWO_LEFT, PAIRS, MIXED]


def kinds(lots, one, two):
    """How many lines have leaves of one alone, of two alone, of both."""
    a = len([lot for lot in lots if lot & set(one) and not lot & set(two)])
    b = len([lot for lot in lots if lot & set(two) and not lot & set(one)])
    return (a, b, len([lot for lot in lots if lot & set(one) and lot & set(two)]))


class TwoSetsTest(Case):
    def test_two_sets(self):
        self.assertEqual(two_sets(plain(4), (0,), (1,), 0), (((0, 0, 1), (1, 6)), ((1, 1, 0), (5, 6))))
        self.assertEqual(two_sets(star(12), (0, 5), (1, 2), 0), (((0, 0, 1), (1, 1)),))

    def test_leaves_not_born_do_not_count(self):
        self.assertEqual(two_sets(LATE, (2, 3), (4,), 0), (((0, 0, 0), (1, 1)),))
        self.assertEqual(two_sets(LATE, (0, 2), (1, 4), 0), (((0, 0, 1), (1, 1)),))
        self.assertEqual(two_sets(TWO_LEFT, (4,), (0, 1, 2, 3), 2), (((0, 1, 0), (1, 1)),))

    def test_against_all_trees(self):
        for calendar in chance_calendars_here():
            for one, two in pairs_of_sets(calendar):
                for d in range(len(calendar.days)):
                    told = listed_chances(calendar, lambda behind: kinds(behind[d], one, two))
                    self.assertEqual(two_sets(calendar, one, two, d), told)

    def test_twelve_leaves(self):
        for calendar in TWELVE:
            for one, two in (((0, 1, 2), (3, 4, 5, 6)), ((0, 2, 4, 6, 8, 10), (1, 3, 5, 7, 9, 11)), ((5,), (11,))):
                for d in range(len(calendar.days)):
                    self.assert_chances(two_sets(calendar, one, two, d))

    def test_wrong(self):
        for some, which in WRONG_SETS:
            self.refused(BadSet, which, two_sets, plain(4), some, (), 99)
            self.refused(BadSet, which, two_sets, plain(4), (0, 3), some, 99)
        for d in (-1, 3, 10 ** 40):
            self.refused(BadMoment, d, two_sets, plain(4), (0, 3), (1, 3), d)
        self.refused(BadMoment, 0, two_sets, SINGLE, (0,), (0,), 0)
        self.refused(BadFamily, 1, two_sets, plain(4), (0, 3), (1, 3), 2)
        self.refused(BadFamily, 1, two_sets, plain(4), (0, 1, 2), (0,), 0)


class FirstMixTest(Case):
    def test_first_mix(self):
        self.assertEqual(first_mix(plain(4), (0, 1), (2, 3)), ((0, (2, 3)), (1, (2, 9)), (2, (1, 9))))
        self.assertEqual(first_mix(star(12), (0, 5), (1, 2)), ((0, (1, 1)),))

    def test_never(self):
        self.assertEqual(first_mix(Calendar((0, 0), ()), (0,), (1,)), ((0, (1, 1)),))
        self.assertEqual(first_mix(TWO_LEFT, (0, 1, 2, 3), (4,)), ((3, (1, 1)),))

    def test_against_all_trees(self):
        for calendar in chance_calendars_here():
            for one, two in pairs_of_sets(calendar):
                mixed = (lambda d, lots: kinds(lots, one, two)[2] > 0)
                told = listed_chances(calendar, lambda behind: first_of(behind, mixed))
                self.assertEqual(first_mix(calendar, one, two), told)

    def test_twelve_leaves(self):
        for calendar in TWELVE:
            for one, two in (((0, 1, 2), (3, 4, 5, 6)), ((0, 2, 4, 6, 8, 10), (1, 3, 5, 7, 9, 11)), ((0,), (1, 11))):
                self.assert_chances(first_mix(calendar, one, two))
            for x in range(11):
                self.assertEqual(first_mix(calendar, (11,), (x,)), meeting(calendar, x, 11))
        self.assertEqual(first_mix(PLAIN_TWELVE, (0,), tuple(range(1, 12)))[0], (0, (1, 6)))

    def test_wrong(self):
        for some, which in WRONG_SETS:
            self.refused(BadSet, which, first_mix, plain(4), some, ())
            self.refused(BadSet, which, first_mix, plain(4), (0, 3), some)
        self.refused(BadFamily, 1, first_mix, plain(4), (0, 3), (1, 3))
        self.refused(BadFamily, 1, first_mix, SINGLE, (0,), (0,))


if __name__ == "__main__":
    unittest.main()
