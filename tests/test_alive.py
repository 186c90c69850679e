import unittest

from datedlines.alive import alive, behind, ends
from datedlines.errors import BadMoment
from support import LATE, LATE_TWELVE, PAIRS, PLAIN_TWELVE, SINGLE, TWO_LEFT, Case, calendar_of, small_calendars


class AliveTest(Case):
    def test_late(self):
        self.assertEqual([alive(LATE, d) for d in range(4)], [2, 3, 3, 1])
        self.assertEqual([behind(LATE, d) for d in range(3)], [1, 2, 1])
        self.assertEqual(ends(LATE), 1)

    def test_newcomers_behind_all_days(self):
        self.assertEqual([alive(TWO_LEFT, d) for d in range(4)], [3, 3, 2, 2])
        self.assertEqual([behind(TWO_LEFT, d) for d in range(3)], [2, 2, 1])
        self.assertEqual(ends(TWO_LEFT), 2)
        self.assertEqual(ends(calendar_of((0, 0, 1, 1, 1), (2,))), 4)

    def test_edges(self):
        self.assertEqual((alive(SINGLE, 0), ends(SINGLE)), (1, 1))
        self.assertEqual([alive(PAIRS, d) for d in range(3)], [4, 2, 1])
        self.assertEqual([alive(PLAIN_TWELVE, d) for d in range(12)], list(range(12, 0, -1)))
        self.assertEqual([alive(LATE_TWELVE, d) for d in range(11)], [2] * 11)
        self.assertEqual(ends(LATE_TWELVE), 1)
        self.assertEqual(ends(calendar_of((0,) * 12)), 12)

    def test_all_small_ones(self):
        for calendar in small_calendars(4, 2):
            k = 0
            for d, pattern in enumerate(calendar.days):
                k += calendar.born.count(d)
                self.assertEqual(alive(calendar, d), k)
                k -= sum(pattern) - len(pattern)
                self.assertEqual(behind(calendar, d), k)
            k += calendar.born.count(len(calendar.days))
            self.assertEqual(alive(calendar, len(calendar.days)), k)
            self.assertEqual(ends(calendar), k)

    def test_wrong_moments(self):
        for d in (-1, 4, 10 ** 40, -10 ** 40):
            self.refused(BadMoment, d, alive, LATE, d)
            self.refused(BadMoment, d, behind, LATE, d)
        self.refused(BadMoment, 3, behind, LATE, 3)
        self.refused(BadMoment, 1, alive, SINGLE, 1)
        self.refused(BadMoment, 0, behind, SINGLE, 0)


if __name__ == "__main__":
    unittest.main()
