import unittest

from datedlines.calendarlooks import plain
from datedlines.dates import made_dates
from datedlines.errors import BadDates
from support import (LATE, LATE_MANY, LATE_TWELVE, PLAIN_TWELVE, SINGLE, TWO_LEFT, WRONG_DATES, Case, dates_of,
                     small_calendars)

GREATEST = 10 ** 12


class DatesTest(Case):
    def test_made_dates(self):
        for dates in (((5, 9), (0, 0, 0)), ((5, 9), (5, 5, -10 ** 12)), ((-9, -5), (-9, -20, -9))):
            self.assertEqual(made_dates(plain(3), dates), dates)
        for calendar in small_calendars(4, 3) + [LATE, TWO_LEFT, PLAIN_TWELVE, LATE_TWELVE, LATE_MANY]:
            for start in (-100, 0, 7, -GREATEST + 100, GREATEST - 1000):
                dates = dates_of(calendar, start)
                self.assertEqual(made_dates(calendar, dates), dates)

    def test_births_at_their_bounds(self):
        # Ahead of day 1 of LATE: above the date 10 and at most 20; ahead of day 2 above 20 and at most 30.
        for birth in (11, 20):
            dates = ((10, 20, 30), (0, 10, 15, birth, 21))
            self.assertEqual(made_dates(LATE, dates), dates)
        for birth in (10, 21, -5):
            self.refused(BadDates, (1, 3), made_dates, LATE, ((10, 20, 30), (0, 10, 15, birth, 21)))
        for birth in (31, GREATEST):
            dates = ((10, 20, 30), (0, 0, 11, 0, birth))
            self.assertEqual(made_dates(TWO_LEFT, dates), dates)
        for birth in (30, GREATEST + 1):
            self.refused(BadDates, (1, 4), made_dates, TWO_LEFT, ((10, 20, 30), (0, 0, 11, 0, birth)))

    def test_without_days(self):
        for birth in (-GREATEST, 0, GREATEST):
            self.assertEqual(made_dates(SINGLE, ((), (birth,))), ((), (birth,)))
        for birth in (-GREATEST - 1, GREATEST + 1):
            self.refused(BadDates, (1, 0), made_dates, SINGLE, ((), (birth,)))

    def test_the_greatest_dates(self):
        dates = ((-GREATEST, GREATEST), (-GREATEST,) * 3)
        self.assertEqual(made_dates(plain(3), dates), dates)
        self.refused(BadDates, (0, 1), made_dates, plain(3), ((5, GREATEST + 1), (0, 0, 0)))
        self.refused(BadDates, (0, 0), made_dates, plain(3), ((-GREATEST - 1, 5), (-GREATEST - 1,) * 3))
        self.refused(BadDates, (1, 2), made_dates, plain(3), ((5, 9), (0, 0, -GREATEST - 1)))

    def test_wrong(self):
        for dates, what in WRONG_DATES:
            self.refused(BadDates, what, made_dates, plain(3), dates)


if __name__ == "__main__":
    unittest.main()
