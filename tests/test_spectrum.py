import unittest
from fractions import Fraction

from datedlines.boughs import is_bough
from datedlines.calendarlooks import plain, star
from datedlines.depthchances import bough_mean
from datedlines.errors import BadLeaf, BadMoment
from datedlines.spectrum import line_sizes, spectrum
from support import (LATE, LATE_MANY, LATE_TWELVE, PLAIN_TWELVE, SINGLE, TWO_LEFT, WIDE, Case, chance_calendars,
                     line_of, listed_chances, listed_mean, lowest, subsets)


class LineSizesTest(Case):
    def test_line_sizes(self):
        for x in range(4):
            self.assertEqual(line_sizes(plain(4), 1, x), ((1, (1, 6)), (2, (1, 3)), (3, (1, 2))))
        self.assertEqual(line_sizes(star(12), 0, 11), ((12, (1, 1)),))
        self.assertEqual(line_sizes(LATE, 1, 2), ((1, (1, 3)), (2, (1, 3)), (3, (1, 3))))

    def test_against_all_trees(self):
        for calendar in chance_calendars():
            for d in range(len(calendar.days)):
                for x, moment in enumerate(calendar.born):
                    if moment <= d:
                        told = listed_chances(calendar, lambda behind: len(line_of(behind[d], x)))
                        self.assertEqual(line_sizes(calendar, d, x), told)

    def test_the_sum_over_sets(self):
        calendar = WIDE
        sums = {}
        for some in subsets(range(1, 12)):
            if len(some) <= 3:
                n, d = is_bough(calendar, (0,) + some, 2)
                sums[len(some) + 1] = sums.get(len(some) + 1, 0) + Fraction(n, d)
        told = tuple((i, lowest(sums[i].numerator, sums[i].denominator)) for i in (2, 3, 4) if sums[i])
        self.assertEqual(tuple(pair for pair in line_sizes(calendar, 2, 0) if pair[0] in (2, 3, 4)), told)

    def test_twelve_leaves(self):
        for calendar in (PLAIN_TWELVE, WIDE, LATE_TWELVE, LATE_MANY):
            for d in range(len(calendar.days)):
                for x in (0, 5):
                    if calendar.born[x] <= d:
                        found = line_sizes(calendar, d, x)
                        self.assert_chances(found)
                        mean = sum(i * Fraction(*one) for i, one in found)
                        self.assertEqual(mean, Fraction(*bough_mean(calendar, d + 1, x)))

    def test_wrong(self):
        for d in (-1, 3, 10 ** 40):
            self.refused(BadMoment, d, line_sizes, plain(4), d, 99)
        self.refused(BadMoment, 0, line_sizes, SINGLE, 0, 0)
        for x in (-1, 4, 10 ** 40):
            self.refused(BadLeaf, x, line_sizes, plain(4), 2, x)
        self.refused(BadLeaf, 4, line_sizes, LATE, 1, 4)
        self.refused(BadLeaf, 4, line_sizes, TWO_LEFT, 2, 4)


class SpectrumTest(Case):
    def test_spectrum(self):
        self.assertEqual(spectrum(plain(4), 0), ((2, 1), (1, 1), (0, 1), (0, 1)))
        self.assertEqual(spectrum(plain(4), 1), ((2, 3), (2, 3), (2, 3), (0, 1)))
        self.assertEqual(spectrum(LATE, 0), ((0, 1), (1, 1), (0, 1), (0, 1), (0, 1)))

    def test_against_all_trees(self):
        for calendar in chance_calendars():
            for d in range(len(calendar.days)):
                told = []
                for i in range(1, len(calendar.born) + 1):
                    told.append(listed_mean(calendar, lambda behind: len([lot for lot in behind[d] if len(lot) == i])))
                self.assertEqual(spectrum(calendar, d), tuple(told))

    def test_twelve_leaves(self):
        for calendar in (PLAIN_TWELVE, WIDE, LATE_TWELVE, LATE_MANY):
            for d in range(len(calendar.days)):
                found = spectrum(calendar, d)
                self.assertEqual(len(found), 12)
                leaves = sum((i + 1) * Fraction(*one) for i, one in enumerate(found))
                self.assertEqual(leaves, len([x for x in calendar.born if x <= d]))
        self.assertEqual(spectrum(PLAIN_TWELVE, 10), ((0, 1),) * 11 + ((1, 1),))

    def test_wrong(self):
        for d in (-1, 3, 10 ** 40):
            self.refused(BadMoment, d, spectrum, plain(4), d)
        self.refused(BadMoment, 0, spectrum, SINGLE, 0)


if __name__ == "__main__":
    unittest.main()
