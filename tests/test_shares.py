import unittest
from fractions import Fraction

from datedlines.errors import BadCount
from datedlines.shares import mean, minus, plus, share, times
from support import Case

VALUES = (0, 1, -1, 2, 3, 4, 6, -6, 9, 12, -35, 10 ** 30, -10 ** 30 + 4)


def pair(fraction):
    return (fraction.numerator, fraction.denominator)


class SharesTest(Case):
    def test_share_is_in_lowest_terms(self):
        for n in VALUES:
            for d in VALUES:
                if d != 0:
                    self.assertEqual(share(n, d), pair(Fraction(n, d)))

    def test_nothing_is_zero_over_one(self):
        self.assertEqual(share(0, 7), (0, 1))
        self.assertEqual(share(0, -7), (0, 1))
        self.assertEqual(minus((1, 3), (1, 3)), (0, 1))

    def test_sums_and_products(self):
        fractions = [Fraction(n, d) for n in VALUES[:9] for d in (1, 2, 3, 8)]
        for one in fractions:
            for two in fractions:
                self.assertEqual(plus(pair(one), pair(two)), pair(one + two))
                self.assertEqual(minus(pair(one), pair(two)), pair(one - two))
                self.assertEqual(times(pair(one), pair(two)), pair(one * two))

    def test_mean(self):
        self.assertEqual(mean(((1, 2),)), (1, 2))
        self.assertEqual(mean(((1, 2), (1, 3), (1, 6))), (1, 3))
        self.assertEqual(mean(((1, 2), (-1, 2))), (0, 1))
        self.assertEqual(mean(((3, 1), (4, 1))), (7, 2))

    def test_wrong(self):
        self.refused(BadCount, 0, share, 3, 0)
        self.refused(BadCount, 0, share, 0, 0)
        self.refused(BadCount, 0, mean, ())


if __name__ == "__main__":
    unittest.main()
