import unittest

from datedlines.calendarlooks import is_level, is_plain, plain, star
from datedlines.calendars import Calendar
from datedlines.errors import BadSize
from support import LATE, PAIRS, SINGLE, TWO_LEFT, Case, calendar_of, small_calendars


class CalendarLooksTest(Case):
    def test_plain(self):
        self.assertEqual(plain(1), SINGLE)
        self.assertEqual(plain(4), Calendar((0,) * 4, ((2,),) * 3))
        self.assertEqual(plain(12), Calendar((0,) * 12, ((2,),) * 11))
        for n in (0, 13, -1, 10 ** 30):
            self.refused(BadSize, n, plain, n)

    def test_star(self):
        self.assertEqual(star(2), Calendar((0, 0), ((2,),)))
        self.assertEqual(star(12), Calendar((0,) * 12, ((12,),)))
        for n in (0, 1, 13, -1, 10 ** 30):
            self.refused(BadSize, n, star, n)

    def test_is_plain(self):
        for n in range(1, 13):
            self.assertIs(is_plain(plain(n)), True)
        self.assertIs(is_plain(star(2)), True)
        for calendar in (star(3), LATE, PAIRS, TWO_LEFT, calendar_of((0, 0)), calendar_of((0, 0, 0), (2,)),
                         calendar_of((0, 0, 1), (2,), (2,))):
            self.assertIs(is_plain(calendar), False)

    def test_is_level(self):
        for n in range(2, 13):
            self.assertIs(is_level(star(n)), True)
        for calendar in (SINGLE, plain(2), PAIRS, calendar_of((0,) * 9, (3, 3, 3), (3,)),
                         calendar_of((1, 0, 0), (2,), (2,)), calendar_of((0, 0, 0, 1, 1), (3,), (3,))):
            self.assertIs(is_level(calendar), True)
        for calendar in (plain(3), LATE, TWO_LEFT, calendar_of((0, 0)), calendar_of((0,) * 4, (2, 2)),
                         calendar_of((0,) * 5, (3, 2), (2,)), calendar_of((0,) * 6, (3, 3), (2,)),
                         calendar_of((0, 0, 1), (2,)), calendar_of((0,) * 5, (2, 2), (2,), (2,))):
            self.assertIs(is_level(calendar), False)

    def test_all_small_ones(self):
        plain_ones = [calendar for calendar in small_calendars(4, 3) if is_plain(calendar)]
        self.assertEqual(plain_ones, [plain(n) for n in range(1, 5)])
        level_ones = [(c.born, c.days) for c in small_calendars(4, 2) if is_level(c)]
        expected = [((0,), ()), ((0, 0), ((2,),)), ((0, 0, 0), ((3,),)), ((0, 0, 0, 0), ((4,),)),
                    ((0, 0, 0, 0), ((2, 2), (2,))),
                    ((0, 0, 1), ((2,), (2,))), ((0, 1, 0), ((2,), (2,))), ((1, 0, 0), ((2,), (2,)))]
        self.assertEqual(sorted(level_ones), sorted(expected))


if __name__ == "__main__":
    unittest.main()
