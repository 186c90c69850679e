import unittest
from fractions import Fraction
from itertools import combinations

from datedlines.calendarlooks import plain
from datedlines.calendars import Calendar
from datedlines.datemeans import meeting_mean, pairs_mean, way_mean
from datedlines.errors import BadDates, BadLeaf, BadSet
from support import (LATE, LATE_MANY, LATE_TWELVE, PLAIN_TWELVE, SINGLE, TWO_LEFT, WIDE, WRONG_DATES, Case, behind_all,
                     chance_calendars, dates_of, first_of, lowest)

DATES = ((5, 9), (0, 0, 0))


def listed_dates(calendar, dates, x, y):
    """The dates at which two leaves meet, one for each tree in which they do."""
    found = []
    for behind in behind_all(calendar):
        d = first_of(behind, lambda d, lots: any({x, y} <= lot for lot in lots))
        if d < len(behind):
            found.append(dates[0][d])
    return found


class MeetingMeanTest(Case):
    def test_means(self):
        self.assertEqual(meeting_mean(plain(3), DATES, 0, 1), (23, 3))
        self.assertEqual(way_mean(plain(3), DATES, 0, 1), (46, 3))
        self.assertEqual(way_mean(plain(3), ((5, 9), (0, -4, 0)), 0, 1), (58, 3))
        self.assertEqual(pairs_mean(plain(3), DATES), (23, 3))

    def test_never(self):
        dates = ((10, 20, 30), (0, 0, 11, 0, 31))
        for x in range(4):
            self.assertIsNone(meeting_mean(TWO_LEFT, dates, x, 4))
            self.assertIsNone(way_mean(TWO_LEFT, dates, 4, x))
        self.assertIsNone(pairs_mean(SINGLE, ((), (3,))))
        self.assertIsNone(pairs_mean(Calendar((0, 0), ()), ((), (3, -3))))

    def test_means_of_nothing_but_0(self):
        self.assertEqual(meeting_mean(plain(2), ((0,), (-3, 0)), 0, 1), (0, 1))
        self.assertEqual(way_mean(plain(2), ((0,), (0, 0)), 0, 1), (0, 1))
        self.assertEqual(pairs_mean(plain(2), ((0,), (0, 0))), (0, 1))

    def test_against_all_trees(self):
        for i, calendar in enumerate(chance_calendars()):
            dates = dates_of(calendar, i - 50)
            means = []
            for x, y in combinations(range(len(calendar.born)), 2):
                found = listed_dates(calendar, dates, x, y)
                told, way = None, None
                if found:
                    told = lowest(sum(found), len(found))
                    means.append(Fraction(*told))
                    way = lowest(sum(2 * date - dates[1][x] - dates[1][y] for date in found), len(found))
                self.assertEqual(meeting_mean(calendar, dates, x, y), told)
                self.assertEqual(meeting_mean(calendar, dates, y, x), told)
                self.assertEqual(way_mean(calendar, dates, x, y), way)
            told = None
            if means:
                mean = sum(means) / len(means)
                told = (mean.numerator, mean.denominator)
            self.assertEqual(pairs_mean(calendar, dates), told)

    def test_twelve_leaves(self):
        for calendar in (PLAIN_TWELVE, WIDE, LATE_TWELVE, LATE_MANY):
            for start in (0, -10 ** 12 + 100, 10 ** 12 - 10 ** 4):
                dates = dates_of(calendar, start)
                middle = Fraction(*pairs_mean(calendar, dates))
                self.assertLessEqual(dates[0][0], middle)
                self.assertLessEqual(middle, dates[0][-1])
        dates = dates_of(LATE_TWELVE, 0)
        self.assertEqual(meeting_mean(LATE_TWELVE, dates, 0, 11), (dates[0][10], 1))

    def test_dates_wrong(self):
        for dates, what in WRONG_DATES:
            for function in (meeting_mean, way_mean):
                self.refused(BadDates, what, function, plain(3), dates, 99, 99)
            self.refused(BadDates, what, pairs_mean, plain(3), dates)
        self.refused(BadDates, (3, 2), pairs_mean, SINGLE, ((), (5, 5)))

    def test_leaves_wrong(self):
        for function in (meeting_mean, way_mean):
            for x in (-1, 3, 10 ** 40):
                self.refused(BadLeaf, x, function, plain(3), DATES, x, x)
                self.refused(BadLeaf, x, function, plain(3), DATES, 0, x)
            self.refused(BadSet, 2, function, plain(3), DATES, 2, 2)
            self.refused(BadSet, 0, function, SINGLE, ((), (3,)), 0, 0)


if __name__ == "__main__":
    unittest.main()
