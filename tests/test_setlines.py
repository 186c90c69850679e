import unittest

from datedlines.calendarlooks import plain, star
from datedlines.calendars import Calendar
from datedlines.errors import BadMoment, BadSet
from datedlines.meetings import meeting
from datedlines.setlines import all_met, set_lines
from support import (LATE, LATE_MANY, LATE_TWELVE, PLAIN_TWELVE, SINGLE, TWO_LEFT, WIDE, WRONG_SETS, Case,
                     chance_calendars, first_of, listed_chances, subsets)


class SetLinesTest(Case):
    def test_set_lines(self):
        self.assertEqual(set_lines(plain(4), (0, 1), 0), ((1, (1, 6)), (2, (5, 6))))
        self.assertEqual(set_lines(LATE, (2, 3), 0), ((0, (1, 1)),))
        self.assertEqual(set_lines(LATE, (2, 3), 1), ((1, (1, 3)), (2, (2, 3))))
        self.assertEqual(set_lines(star(12), tuple(range(12)), 0), ((1, (1, 1)),))

    def test_against_all_trees(self):
        for calendar in chance_calendars():
            for some in subsets(range(len(calendar.born))):
                for d in range(len(calendar.days)):
                    told = listed_chances(calendar, lambda behind: len([lot for lot in behind[d] if lot & set(some)]))
                    self.assertEqual(set_lines(calendar, some, d), told)

    def test_twelve_leaves(self):
        for calendar in (PLAIN_TWELVE, WIDE, LATE_TWELVE, LATE_MANY):
            for some in ((0,), (3, 4, 5, 6, 11), tuple(range(12))):
                for d in range(len(calendar.days)):
                    self.assert_chances(set_lines(calendar, some, d))
        self.assertEqual(set_lines(PLAIN_TWELVE, tuple(range(12)), 8), ((3, (1, 1)),))

    def test_wrong(self):
        for some, which in WRONG_SETS:
            self.refused(BadSet, which, set_lines, plain(4), some, 99)
        for d in (-1, 3, 10 ** 40):
            self.refused(BadMoment, d, set_lines, plain(4), (0, 3), d)
        self.refused(BadMoment, 0, set_lines, SINGLE, (0,), 0)


class AllMetTest(Case):
    def test_all_met(self):
        self.assertEqual(all_met(plain(4), (0, 1, 2)), ((1, (1, 6)), (2, (5, 6))))
        self.assertEqual(all_met(star(12), tuple(range(12))), ((0, (1, 1)),))

    def test_sets_of_one_leaf(self):
        self.assertEqual(all_met(SINGLE, (0,)), ((0, (1, 1)),))
        self.assertEqual(all_met(LATE, (0,)), ((0, (1, 1)),))
        self.assertEqual(all_met(LATE, (4,)), ((2, (1, 1)),))
        self.assertEqual(all_met(TWO_LEFT, (4,)), ((3, (1, 1)),))

    def test_never(self):
        self.assertEqual(all_met(Calendar((0, 0), ()), (0, 1)), ((0, (1, 1)),))
        self.assertEqual(all_met(TWO_LEFT, (0, 1, 4)), ((3, (1, 1)),))

    def test_against_all_trees(self):
        for calendar in chance_calendars():
            for some in subsets(range(len(calendar.born))):
                one_line = (lambda d, lots: any(lot >= set(some) for lot in lots))
                told = listed_chances(calendar, lambda behind: first_of(behind, one_line))
                self.assertEqual(all_met(calendar, some), told)

    def test_twelve_leaves(self):
        for calendar in (PLAIN_TWELVE, WIDE, LATE_TWELVE, LATE_MANY):
            for some in ((5,), (0, 1, 2), (3, 4, 5, 6, 11), tuple(range(12))):
                self.assert_chances(all_met(calendar, some))
            for x in range(11):
                self.assertEqual(all_met(calendar, (x, 11)), meeting(calendar, 11, x))
        self.assertEqual(all_met(PLAIN_TWELVE, tuple(range(12))), ((10, (1, 1)),))

    def test_wrong(self):
        for some, which in WRONG_SETS:
            self.refused(BadSet, which, all_met, plain(4), some)


if __name__ == "__main__":
    unittest.main()
