import unittest

from datedlines.allcalendars import calendars_count, nth_calendar
from datedlines.chains import chains, stirling
from datedlines.errors import BadSize
from datedlines.numbers import size
from datedlines.patterns import less, patterns, ways
from support import Case


def lots_many(k):
    """For each j in how many ways k things are parted into j lots, from all ways."""
    ways = [[]]
    for x in range(k):
        ways = [way[:i] + [way[i] + [x]] + way[i + 1:] for way in ways for i in range(len(way))] + \
            [way + [[x]] for way in ways]
    return [len([way for way in ways if len(way) == j]) for j in range(k + 1)]


class StirlingTest(Case):
    def test_against_all_ways(self):
        for k in range(8):
            self.assertEqual([stirling(k, j) for j in range(13)], lots_many(k) + [0] * (12 - k))

    def test_edges(self):
        self.assertEqual(stirling(0, 0), 1)
        for k in range(1, 13):
            self.assertEqual((stirling(k, 0), stirling(0, k), stirling(k, 1), stirling(k, k)), (0, 0, 1, 1))
        self.assertEqual(stirling(12, 2), 2 ** 11 - 1)
        self.assertEqual(stirling(12, 11), 66)

    def test_wrong(self):
        for thing in (-1, 13, 10 ** 40):
            self.refused(BadSize, thing, stirling, thing, -5)
            self.refused(BadSize, thing, stirling, 0, thing)
            self.refused(BadSize, thing, stirling, 12, thing)


class ChainsTest(Case):
    def test_chains(self):
        self.assertEqual([chains(k) for k in range(1, 6)], [1, 1, 4, 32, 436])

    def test_the_trees_of_all_calendars(self):
        for k in range(1, 10):
            self.assertEqual(chains(k), sum(size(nth_calendar(k, i)) for i in range(calendars_count(k))))

    def test_by_the_patterns_of_the_first_day(self):
        for k in range(2, 13):
            self.assertEqual(chains(k), sum(ways(k, pattern) * chains(k - less(pattern)) for pattern in patterns(k)))

    def test_wrong(self):
        for k in (0, 13, -1, 10 ** 40):
            self.refused(BadSize, k, chains, k)


if __name__ == "__main__":
    unittest.main()
