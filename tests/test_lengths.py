import unittest

from datedlines.calendarlooks import plain
from datedlines.calendars import Calendar
from datedlines.errors import BadDates
from datedlines.lengths import total_length
from support import (LATE, LATE_MANY, LATE_TWELVE, PLAIN_TWELVE, SINGLE, TWO_LEFT, WRONG_DATES, Case, behind_all,
                     calendar_of, chance_calendars, dates_of)


def listed_length(calendar, dates, behind):
    """The sum of the lengths of all lines of one tree."""
    days_at, born_at = dates
    begun = {}
    ended = {}
    for x, moment in enumerate(calendar.born):
        if moment < len(days_at):
            begun[frozenset([x])] = born_at[x]
    for d, lots in enumerate(behind):
        for lot in lots:
            begun.setdefault(lot, days_at[d])
        for lot in list(begun):
            is_born = all(calendar.born[x] <= d for x in lot)
            if is_born and lot not in lots:
                ended.setdefault(lot, days_at[d])
    return sum(ended.get(lot, days_at[-1]) - begun[lot] for lot in begun)


class TotalLengthTest(Case):
    def test_total_length(self):
        self.assertEqual(total_length(plain(3), ((5, 9), (0, 0, 0))), 23)
        self.assertEqual(total_length(calendar_of((0, 0, 1), (2,)), ((5,), (0, 0, 9))), 10)
        self.assertEqual(total_length(plain(3), ((5, 9), (0, 5, -10 ** 12))), 18 + 10 ** 12)
        self.assertEqual(total_length(LATE, ((10, 20, 30), (0, 10, 15, 20, 21))), 10 + 10 + 5 + 20 + 9)

    def test_without_days(self):
        self.assertEqual(total_length(SINGLE, ((), (7,))), 0)
        self.assertEqual(total_length(Calendar((0, 0), ()), ((), (7, -7))), 0)

    def test_against_all_trees(self):
        for i, calendar in enumerate(chance_calendars()):
            if calendar.days:
                dates = dates_of(calendar, i - 50)
                for behind in behind_all(calendar):
                    self.assertEqual(total_length(calendar, dates), listed_length(calendar, dates, behind))

    def test_twelve_leaves(self):
        days = tuple(range(1, 12))
        self.assertEqual(total_length(PLAIN_TWELVE, (days, (0,) * 12)), sum(range(2, 13)))
        self.assertEqual(total_length(LATE_TWELVE, (days, (1,) + days)), 10)
        self.assertEqual(total_length(LATE_MANY, dates_of(LATE_MANY, 0)),
                         total_length(LATE_MANY, dates_of(LATE_MANY, 10 ** 12 - 1000)))

    def test_wrong(self):
        for dates, what in WRONG_DATES:
            self.refused(BadDates, what, total_length, plain(3), dates)


if __name__ == "__main__":
    unittest.main()
