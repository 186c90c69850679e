import unittest

from datedlines.allcalendars import calendar_rank, calendars_count, nth_calendar
from datedlines.calendarlooks import plain, star
from datedlines.calendars import Calendar, made_calendar
from datedlines.errors import BadCount, BadSize, Unlike
from support import LATE, PAIRS, PLAIN_TWELVE, SINGLE, TWO_LEFT, WIDE, Case, small_patterns


def listed_days(k):
    """The tuples of days, ascending, of all calendars in which k leaves are born 0 and one line ends."""
    if k == 1:
        return [()]
    found = []
    for pattern in small_patterns(k):
        found.extend([(pattern,) + later for later in listed_days(k - sum(pattern) + len(pattern))])
    return sorted(found)


class AllCalendarsTest(Case):
    def test_counts(self):
        self.assertEqual([calendars_count(k) for k in range(1, 6)], [1, 1, 2, 5, 12])
        self.assertEqual([calendars_count(k) for k in range(1, 8)], [len(listed_days(k)) for k in range(1, 8)])
        self.assertGreater(calendars_count(12), calendars_count(11))

    def test_edges(self):
        self.assertEqual(nth_calendar(1, 0), SINGLE)
        self.assertEqual(calendar_rank(SINGLE), 0)
        self.assertEqual(nth_calendar(2, 0), plain(2))
        self.assertEqual([nth_calendar(3, i) for i in (0, 1)], [plain(3), star(3)])
        self.assertEqual(nth_calendar(12, 0), PLAIN_TWELVE)
        self.assertEqual(nth_calendar(12, calendars_count(12) - 1), star(12))

    def test_against_a_listing(self):
        for k in range(1, 9):
            for i, days in enumerate(listed_days(k)):
                calendar = Calendar((0,) * k, days)
                self.assertEqual(nth_calendar(k, i), calendar)
                self.assertEqual(calendar_rank(calendar), i)

    def test_all_of_ten_leaves(self):
        before = ()
        for i in range(calendars_count(10)):
            calendar = nth_calendar(10, i)
            self.assertEqual(made_calendar(calendar.born, calendar.days), calendar)
            self.assertEqual(calendar_rank(calendar), i)
            self.assertLess(before, calendar.days)
            before = calendar.days

    def test_twelve_leaves(self):
        many = calendars_count(12)
        for i in range(0, many, 499):
            self.assertEqual(calendar_rank(nth_calendar(12, i)), i)
        self.assertEqual(nth_calendar(12, calendar_rank(WIDE)), WIDE)

    def test_wrong(self):
        for k in (0, 13, -1, 10 ** 40):
            self.refused(BadSize, k, calendars_count, k)
            self.refused(BadSize, k, nth_calendar, k, -1)
        for k in (1, 2, 5, 12):
            for i in (-1, calendars_count(k), 10 ** 40, -10 ** 40):
                self.refused(BadCount, i, nth_calendar, k, i)

    def test_unlike(self):
        for calendar in (LATE, TWO_LEFT, Calendar((0, 0), ()), Calendar((1, 0), ()), Calendar((0, 0, 1), ((2,), (2,))),
                         Calendar((0, 0, 1), ((2,),)), Calendar((0,) * 4, ((2, 2),)), Calendar((0,) * 12, ())):
            self.refused(Unlike, 0, calendar_rank, calendar)
        self.assertEqual(nth_calendar(4, calendar_rank(PAIRS)), PAIRS)


if __name__ == "__main__":
    unittest.main()
