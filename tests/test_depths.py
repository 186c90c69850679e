import unittest
from fractions import Fraction
from itertools import combinations_with_replacement

from datedlines.depths import depth_rows, kraft, row_count
from datedlines.errors import BadCount, BadDepth, BadSize
from support import Case, lowest


def listed_depth_rows(n, r):
    """All rows of n depths up to n that never rise and whose sum of 1 / r ** h is 1."""
    rows = combinations_with_replacement(range(n), n)
    return sorted(row[::-1] for row in rows if sum(Fraction(1, r ** h) for h in row) == 1)


class KraftTest(Case):
    def test_kraft(self):
        self.assertEqual(kraft((0,), 2), (1, 1))
        self.assertEqual(kraft((1, 2, 2), 2), (1, 1))
        self.assertEqual(kraft((3, 0, 11), 12), lowest(12 ** 11 + 12 ** 8 + 1, 12 ** 11))
        self.assertEqual(kraft((0,) * 12, 7), (12, 1))
        self.assertEqual(kraft((11,) * 12, 2), (3, 512))

    def test_sums(self):
        for r in range(2, 13):
            for depths in ((0, 1, 2), (5, 5, 5, 1), tuple(range(12)), (11,)):
                told = sum(Fraction(1, r ** h) for h in depths)
                self.assertEqual(kraft(depths, r), (told.numerator, told.denominator))

    def test_wrong(self):
        self.refused(BadSize, 0, kraft, (), 99)
        self.refused(BadSize, 13, kraft, (99,) * 13, 99)
        for h in (-1, 12, 10 ** 40):
            self.refused(BadDepth, 2, kraft, (0, 11, h, h), 99)
        for r in (-2, 0, 1, 13, 10 ** 40):
            self.refused(BadCount, r, kraft, (0, 11), r)


class DepthRowsTest(Case):
    def test_depth_rows(self):
        self.assertEqual(depth_rows(4, 2), ((2, 2, 2, 2), (3, 3, 2, 1)))
        self.assertEqual(depth_rows(4, 3), ())
        for r in range(2, 13):
            self.assertEqual(depth_rows(1, r), ((0,),))
            self.assertIn((1,) * r, depth_rows(r, r))

    def test_against_all_rows(self):
        for n in range(1, 9):
            for r in range(2, 13):
                told = listed_depth_rows(n, r)
                self.assertEqual(depth_rows(n, r), tuple(told))
                self.assertEqual(row_count(n, r), len(told))

    def test_twelve_leaves(self):
        self.assertEqual(row_count(12, 2), 159)
        self.assertEqual(depth_rows(12, 12), ((1,) * 12,))
        for n in range(1, 13):
            for r in range(2, 13):
                rows = depth_rows(n, r)
                self.assertEqual(row_count(n, r), len(rows))
                self.assertEqual(list(rows), sorted(set(rows)))
                for row in rows:
                    self.assertEqual(row, tuple(sorted(row, reverse=True)))
                    self.assertEqual(kraft(row, r), (1, 1))
        self.assertEqual(depth_rows(12, 2)[-1], (11, 11, 10, 9, 8, 7, 6, 5, 4, 3, 2, 1))

    def test_wrong(self):
        for function in (depth_rows, row_count):
            for n in (-1, 0, 13, 10 ** 40):
                self.refused(BadSize, n, function, n, 99)
            for r in (-2, 0, 1, 13, 10 ** 40):
                self.refused(BadCount, r, function, 4, r)


if __name__ == "__main__":
    unittest.main()
