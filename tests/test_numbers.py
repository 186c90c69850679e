import unittest

from datedlines.calendarlooks import plain, star
from datedlines.numbers import size
from support import (LATE, LATE_TWELVE, MIXED, PAIRS, SINGLE, TWO_LEFT, WIDE, Case, calendar_of, listed_trees,
                     small_calendars)


class NumbersTest(Case):
    def test_size(self):
        self.assertEqual(size(SINGLE), 1)
        self.assertEqual(size(star(12)), 1)
        self.assertEqual(size(PAIRS), 3)
        self.assertEqual(size(LATE), 3)
        self.assertEqual([size(plain(n)) for n in range(1, 6)], [1, 1, 3, 18, 180])
        self.assertEqual(size(calendar_of((0,) * 12)), 1)

    def test_all_small_ones(self):
        for calendar in small_calendars(4, 2) + [MIXED, LATE, TWO_LEFT, plain(5)]:
            self.assertEqual(size(calendar), len(listed_trees(calendar)))

    def test_twelve_leaves(self):
        product = 1
        for k in range(2, 13):
            product *= k * (k - 1) // 2
        self.assertEqual(size(plain(12)), product)
        self.assertEqual(size(LATE_TWELVE), 1)
        # 12! / (5! * 6 * 2 * 2 * 2), 8! / (4! * 2 * 2 * 2), 6! / (1! * 6 * 2), 3, 1
        self.assertEqual(size(WIDE), 83160 * 210 * 60 * 3)


if __name__ == "__main__":
    unittest.main()
