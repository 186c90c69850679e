import unittest
from fractions import Fraction
from itertools import combinations

from datedlines.errors import BadDay, BadSize, TooFew
from datedlines.patterns import choose
from datedlines.polynomials import poly_times, touched, whole
from support import ODD, Case, small_patterns


def worth(polynomial, u, v):
    return sum(number * u ** i * v ** j for i, j, number in polynomial)


def lots_of(k, pattern):
    """The lots of k lines behind a day on which the first ones meet in groups of these sizes."""
    lots = []
    begin = 0
    for s in pattern:
        lots.append(frozenset(range(begin, begin + s)))
        begin += s
    return lots + [frozenset([x]) for x in range(begin, k)]


class PolynomialsTest(Case):
    def test_poly_times(self):
        one = ((0, 0, 1), (0, 2, -3), (1, 0, 5))
        two = ((0, 1, 2), (1, 0, -5), (3, 3, 7))
        found = poly_times(one, two)
        self.assertEqual(found, tuple(sorted(found)))
        for u in range(-3, 4):
            for v in range(-3, 4):
                self.assertEqual(worth(found, u, v), worth(one, u, v) * worth(two, u, v))

    def test_poly_times_leaves_out_zeros(self):
        # (u + v) * (u - v) has no number at u * v.
        self.assertEqual(poly_times(((0, 1, 1), (1, 0, 1)), ((0, 1, -1), (1, 0, 1))), ((0, 2, -1), (2, 0, 1)))
        self.assertEqual(poly_times((), ((0, 0, 4),)), ())
        self.assertEqual(poly_times(((1, 2, 3),), ()), ())

    def test_touched_is_its_product(self):
        for k in range(13):
            for pattern in [()] + small_patterns(min(k, 7)):
                found = touched(k, pattern)
                self.assert_polynomial(found)
                for u, v in ((1, 1), (2, 3), (-1, 5), (3, -2)):
                    product = (1 + u * v) ** (k - sum(pattern))
                    for s in pattern:
                        product *= 1 + v * ((1 + u) ** s - 1)
                    self.assertEqual(worth(found, u, v), product)

    def test_whole_is_its_product(self):
        for k in range(13):
            for pattern in [()] + small_patterns(min(k, 7)):
                found = whole(k, pattern)
                self.assert_polynomial(found)
                for u, v in ((1, 1), (2, 3), (-1, 5), (3, -2)):
                    product = (1 + u * v) ** (k - sum(pattern))
                    for s in pattern:
                        product *= 1 + u ** s * v
                    self.assertEqual(worth(found, u, v), product)

    def assert_polynomial(self, found):
        self.assertIsInstance(found, tuple)
        places = [(i, j) for i, j, _ in found]
        self.assertEqual(places, sorted(set(places)))
        self.assertNotIn(0, [number for _, _, number in found])

    def test_chances_of_given_lines(self):
        for k in range(1, 7):
            for pattern in small_patterns(k):
                self.assert_chances(k, pattern)

    def assert_chances(self, k, pattern):
        lots = lots_of(k, pattern)
        for i in range(k + 1):
            among = {}
            alone = {}
            for some in combinations(range(k), i):
                met = [lot for lot in lots if lot & set(some)]
                among[len(met)] = among.get(len(met), 0) + 1
                if all(lot <= set(some) for lot in met):
                    alone[len(met)] = alone.get(len(met), 0) + 1
            for found, expected in ((touched(k, pattern), among), (whole(k, pattern), alone)):
                chances = {j: Fraction(number, choose(k, i)) for h, j, number in found if h == i}
                self.assertEqual(chances, {j: Fraction(n, choose(k, i)) for j, n in expected.items()})

    def test_edges(self):
        self.assertEqual(touched(0, ()), ((0, 0, 1),))
        self.assertEqual(whole(0, ()), ((0, 0, 1),))
        self.assertEqual(touched(2, (2,)), ((0, 0, 1), (1, 1, 2), (2, 1, 1)))
        self.assertEqual(whole(2, (2,)), ((0, 0, 1), (2, 1, 1)))
        self.assertEqual(whole(1, ()), ((0, 0, 1), (1, 1, 1)))
        self.assertEqual(worth(touched(12, (12,)), 1, 1), 2 ** 12)

    def test_wrong(self):
        for function in (touched, whole):
            for it in (-1, 13, 10 ** 30):
                self.refused(BadSize, it, function, it, (2,))
            self.refused(BadSize, 13, function, 13, (1,))
            for thing in ODD + ((1,), (2, 3)):
                self.refused(BadDay, 0, function, 4, thing)
            self.refused(TooFew, 4, function, 4, (3, 2))
            self.refused(TooFew, 0, function, 0, (2,))
            self.refused(TooFew, 12, function, 12, (10 ** 30,))


if __name__ == "__main__":
    unittest.main()
