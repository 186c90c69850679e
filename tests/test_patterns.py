import unittest
from itertools import combinations

from datedlines.errors import BadDay, BadSize
from datedlines.patterns import choose, is_pattern, less, met, patterns, ways
from support import DEEP, LONG, ODD, Case, listed_rows, small_patterns

NO_PATTERNS = ((1,), (0,), (-2,), (2, 3), (3, 2, 3), (2, 1), (2, "2"), (2, True), ((2,),), ((2, 2),), "22", 2)
NO_SIZES = (-1, 13, 10 ** 50, -10 ** 50)


class PatternsTest(Case):
    def test_choose(self):
        for a in range(13):
            for b in range(13):
                self.assertEqual(choose(a, b), len(list(combinations(range(a), b))))

    def test_choose_wrong(self):
        for it in NO_SIZES:
            self.refused(BadSize, it, choose, it, 3)
            self.refused(BadSize, it, choose, 3, it)
        self.refused(BadSize, 13, choose, 13, -1)

    def test_is_pattern(self):
        for thing in ((), (2,), (3, 2), (2, 2), (10 ** 40, 5, 5, 2), LONG):
            self.assertIs(is_pattern(thing), True)
        for thing in ODD + NO_PATTERNS + (DEEP, LONG + (3,), (1,) * 10 ** 5):
            self.assertIs(is_pattern(thing), False)

    def test_patterns(self):
        for k in range(8):
            self.assertEqual(patterns(k), tuple(small_patterns(k)))
        self.assertEqual(patterns(1), ())
        self.assertEqual(patterns(5), ((2,), (2, 2), (3,), (3, 2), (4,), (5,)))

    def test_patterns_of_twelve(self):
        found = patterns(12)
        self.assertEqual(list(found), sorted(set(found)))
        # The partitions of all numbers up to 12 without ones are those of 12 but the one of ones alone.
        self.assertEqual(len(found), 76)
        self.assertEqual((found[0], found[-1]), ((2,), (12,)))
        for it in NO_SIZES:
            self.refused(BadSize, it, patterns, it)

    def test_met_and_less(self):
        self.assertEqual((met(()), less(())), (0, 0))
        self.assertEqual((met((4, 2, 2)), less((4, 2, 2))), (8, 5))
        self.assertEqual((met((10 ** 20,)), less((10 ** 20,))), (10 ** 20, 10 ** 20 - 1))
        for thing in ODD + NO_PATTERNS + (DEEP,):
            self.refused(BadDay, 0, met, thing)
            self.refused(BadDay, 0, less, thing)

    def test_ways_by_listing(self):
        for k in range(8):
            for pattern in [()] + small_patterns(7):
                self.assertEqual(ways(k, pattern), len(listed_rows(range(k), pattern)))

    def test_ways(self):
        self.assertEqual(ways(0, ()), 1)
        self.assertEqual(ways(12, ()), 1)
        self.assertEqual(ways(4, (2, 2)), 3)
        self.assertEqual(ways(12, (2,) * 6), 10395)
        # 12! by 2!, by the sizes' factorials 6 * 6 * 2 * 2, by the repeats 2 * 2.
        self.assertEqual(ways(12, (3, 3, 2, 2)), 479001600 // 2 // 144 // 4)
        self.assertEqual(ways(12, LONG), 0)
        self.assertEqual(ways(12, (10 ** 40,)), 0)

    def test_ways_wrong(self):
        for it in NO_SIZES:
            self.refused(BadSize, it, ways, it, (2,))
        self.refused(BadSize, 13, ways, 13, (1,))
        for thing in ODD + NO_PATTERNS + (DEEP,):
            self.refused(BadDay, 0, ways, 4, thing)


if __name__ == "__main__":
    unittest.main()
