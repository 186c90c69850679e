import unittest

from datedlines.bare import sisters
from datedlines.boughs import ever_bough, first_bough, is_bough
from datedlines.calendarlooks import plain, star
from datedlines.calendars import Calendar
from datedlines.errors import BadMoment, BadSet
from support import (LATE, LATE_MANY, LATE_TWELVE, PLAIN_TWELVE, SINGLE, TWO_LEFT, WIDE, WRONG_SETS, Case, behind_all,
                     chance_calendars, first_of, listed_chances, listed_mean, lowest, subsets)


class IsBoughTest(Case):
    def test_is_bough(self):
        self.assertEqual(is_bough(plain(4), (0, 1), 0), (1, 6))
        self.assertEqual(is_bough(plain(4), (0, 1), 1), (1, 9))
        self.assertEqual(is_bough(plain(4), (0, 1, 2, 3), 2), (1, 1))
        self.assertEqual(is_bough(plain(4), (2,), 0), (1, 2))

    def test_not_all_born(self):
        self.assertEqual(is_bough(LATE, (0, 1), 0), (1, 1))
        self.assertEqual(is_bough(LATE, (0, 1, 2), 0), (0, 1))
        self.assertEqual(is_bough(LATE, (4,), 1), (0, 1))

    def test_against_all_trees(self):
        for calendar in chance_calendars():
            for some in subsets(range(len(calendar.born))):
                for d in range(len(calendar.days)):
                    told = listed_mean(calendar, lambda behind: frozenset(some) in behind[d])
                    self.assertEqual(is_bough(calendar, some, d), told)

    def test_twelve_leaves(self):
        self.assertEqual(is_bough(PLAIN_TWELVE, (3, 8), 0), (1, 66))
        self.assertEqual(is_bough(PLAIN_TWELVE, tuple(range(12)), 10), (1, 1))
        self.assertEqual(is_bough(LATE_TWELVE, tuple(range(7)), 5), (1, 1))
        self.assertEqual(is_bough(LATE_MANY, (11,), 6), (0, 1))

    def test_wrong(self):
        for some, which in WRONG_SETS:
            self.refused(BadSet, which, is_bough, plain(4), some, 99)
        for d in (-1, 3, 10 ** 40):
            self.refused(BadMoment, d, is_bough, plain(4), (0, 3), d)
        self.refused(BadMoment, 0, is_bough, SINGLE, (0,), 0)


class FirstBoughTest(Case):
    def test_first_bough(self):
        self.assertEqual(first_bough(plain(4), (0, 1)), ((0, (1, 6)), (1, (1, 18))))
        self.assertEqual(ever_bough(plain(4), (0, 1)), (2, 9))
        self.assertEqual(first_bough(star(12), tuple(range(12))), ((0, (1, 1)),))

    def test_never(self):
        self.assertEqual(first_bough(Calendar((0, 0), ()), (0, 1)), ())
        self.assertEqual(ever_bough(Calendar((0, 0), ()), (0, 1)), (0, 1))
        self.assertEqual(first_bough(LATE, (0, 2)), ())
        self.assertEqual(ever_bough(TWO_LEFT, (0, 1, 2, 3, 4)), (0, 1))

    def test_against_all_trees(self):
        for calendar in chance_calendars():
            for some in subsets(range(len(calendar.born)), 2):
                first = (lambda behind: first_of(behind, lambda d, lots: frozenset(some) in lots))
                told = [pair for pair in listed_chances(calendar, first) if pair[0] < len(calendar.days)]
                self.assertEqual(first_bough(calendar, some), tuple(told))
                trees = behind_all(calendar)
                ever = [behind for behind in trees if any(frozenset(some) in lots for lots in behind)]
                self.assertEqual(ever_bough(calendar, some), lowest(len(ever), len(trees)))

    def test_twelve_leaves(self):
        for calendar in (PLAIN_TWELVE, WIDE, LATE_TWELVE, LATE_MANY):
            for some in ((0, 1), (3, 4, 5, 6, 10), tuple(range(12))):
                self.assert_chances(first_bough(calendar, some), ever_bough(calendar, some))
            for x in range(11):
                self.assertEqual(ever_bough(calendar, (x, 11)), sisters(calendar, x, 11))
        self.assertEqual(first_bough(PLAIN_TWELVE, tuple(range(12))), ((10, (1, 1)),))

    def test_wrong(self):
        for function in (first_bough, ever_bough):
            for some, which in WRONG_SETS:
                self.refused(BadSet, which, function, plain(4), some)
            self.refused(BadSet, 1, function, plain(4), (3,))
            self.refused(BadSet, 1, function, SINGLE, (0,))
            self.refused(BadSet, 0, function, plain(4), (4,))


if __name__ == "__main__":
    unittest.main()
