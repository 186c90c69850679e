import unittest
from itertools import permutations, product

from datedlines.calendars import Calendar, days_many, leaves_many, made_calendar, renamed
from datedlines.errors import BadBirth, BadDay, BadLeaf, BadSize, TooFew
from support import DEEP, LATE, LONG, ODD, Case, enough, small_patterns


class CalendarsTest(Case):
    def test_made_calendar(self):
        made = made_calendar((0, 0, 1), ((2,), (2,)))
        self.assertIsInstance(made, Calendar)
        self.assertEqual(made.born, (0, 0, 1))
        self.assertEqual(made.days, ((2,), (2,)))
        self.assertEqual((leaves_many(made), days_many(made)), (3, 2))

    def test_by_name(self):
        self.assertEqual(made_calendar(days=((2,),), born=(0, 0)), made_calendar((0, 0), ((2,),)))

    def test_edges(self):
        self.assertEqual(made_calendar((0,), ()).days, ())
        self.assertEqual(made_calendar((0,) * 12, ()).born, (0,) * 12)
        self.assertEqual(days_many(made_calendar((0,) * 12, ((2,),) * 11)), 11)
        # A leaf that is born behind all days.
        self.assertEqual(made_calendar((0, 0, 1), ((2,),)).born, (0, 0, 1))

    def test_equal(self):
        one = made_calendar((0, 0), ((2,),))
        self.assertTrue(one == made_calendar((0, 0), ((2,),)))
        self.assertFalse(one != made_calendar((0, 0), ((2,),)))
        for other in (made_calendar((0, 0), ()), made_calendar((0, 0, 0), ((2,),)), made_calendar((0, 0, 1), ((2,),))):
            self.assertIs(one == other, False)
            self.assertIs(one != other, True)
        for other in (((0, 0), ((2,),)), None, 0, "", (0, 0)):
            self.assertIs(one == other, False)
            self.assertIs(one != other, True)

    def test_wrong_sizes(self):
        self.refused(BadSize, 0, made_calendar, (), ())
        self.refused(BadSize, 13, made_calendar, (0,) * 13, ())
        self.refused(BadSize, 10 ** 5, made_calendar, (True,) * 10 ** 5, ("x",) * 12)
        self.refused(BadDay, 12, made_calendar, (0,) * 12, ((2,),) * 12)
        self.refused(BadDay, 10 ** 5, made_calendar, (0,) * 12, ODD[:1] * 10 ** 5)

    def test_wrong_days(self):
        for thing in ODD + (DEEP, (), (1,), (0,), (2, 3), ((2,),), LONG + (3,)):
            self.refused(BadDay, 0, made_calendar, (0, 0), (thing,))
            self.refused(BadDay, 1, made_calendar, (0,) * 12, ((2,), thing, (1,)))

    def test_wrong_births(self):
        for thing in (True, False, "0", "", -1, 2, 10 ** 40, -10 ** 40, (), (0,), ((0,),), DEEP):
            self.refused(BadBirth, 0, made_calendar, (thing, 0, 0), ((2,),))
            self.refused(BadBirth, 2, made_calendar, (0, 0, thing, thing), ((2,),))
        self.refused(BadBirth, 0, made_calendar, (1,), ())

    def test_too_few(self):
        self.refused(TooFew, 0, made_calendar, (0,), ((2,),))
        self.refused(TooFew, 0, made_calendar, (0, 1, 1), ((2,), (2,)))
        self.refused(TooFew, 1, made_calendar, (0, 0, 0), ((2,), (3,)))
        self.refused(TooFew, 1, made_calendar, (0, 0, 2), ((2,), (2,)))
        self.refused(TooFew, 0, made_calendar, (0, 0), (LONG,))
        self.refused(TooFew, 1, made_calendar, (0,) * 12, ((2,), (10 ** 40, 3), (2, 2)))

    def test_order_of_errors(self):
        self.refused(BadSize, 13, made_calendar, (9,) * 13, ((2,),) * 12)
        self.refused(BadDay, 12, made_calendar, (99,), ((1,),) * 12)
        self.refused(BadDay, 1, made_calendar, (99,), ((2,), ()))
        self.refused(BadBirth, 1, made_calendar, (0, 5), ((9,), (2,)))

    def test_all_small_ones(self):
        for n in range(1, 5):
            for m in range(3):
                for days in product(small_patterns(5), repeat=m):
                    for born in product(range(m + 1), repeat=n):
                        self.assert_judged(born, days)

    def assert_judged(self, born, days):
        if enough(born, days):
            made = made_calendar(born, days)
            self.assertEqual((made.born, made.days), (born, days))
        else:
            first = min(d for d in range(len(days)) if not enough(born, days[:d + 1]))
            self.refused(TooFew, first, made_calendar, born, days)

    def test_renamed(self):
        self.assertEqual(renamed(LATE, (4, 3, 2, 1, 0)).born, (2, 1, 1, 0, 0))
        self.assertEqual(renamed(LATE, (1, 2, 3, 4, 0)).born, (2, 0, 0, 1, 1))
        self.assertEqual(renamed(LATE, (0, 1, 2, 3, 4)), LATE)
        for places in permutations(range(5)):
            other = renamed(LATE, places)
            self.assertEqual(other.days, LATE.days)
            for p in range(5):
                self.assertEqual(other.born[places[p]], LATE.born[p])

    def test_renamed_wrong(self):
        self.refused(BadSize, 4, renamed, LATE, (0, 1, 2, 3))
        self.refused(BadSize, 6, renamed, LATE, (0, 1, 2, 3, 9, 9))
        self.refused(BadSize, 0, renamed, LATE, ())
        self.refused(BadLeaf, 0, renamed, LATE, (5, 5, 1, 1, 1))
        self.refused(BadLeaf, 2, renamed, LATE, (1, 0, 1, 9, 9))
        self.refused(BadLeaf, 4, renamed, LATE, (1, 0, 2, 3, -1))
        self.refused(BadLeaf, 3, renamed, LATE, (1, 0, 2, 10 ** 40, -1))


if __name__ == "__main__":
    unittest.main()
