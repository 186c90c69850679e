import unittest

from datedlines.errors import BadCount, BadDay, BadNames, BadRow
from datedlines.nthgroups import groups_rank, nth_groups
from datedlines.patterns import patterns, ways
from support import DEEP, LONG, ODD, Case, listed_rows, small_patterns

TWELVE = tuple(range(12))


class NthGroupsTest(Case):
    def test_all_rows_in_order(self):
        for names in ((), (4,), (0, 1), (0, 1, 2, 3), (1, 4, 5, 8, 11), (-7, -2, 0, 3, 10 ** 30), (0, 1, 2, 3, 5, 8)):
            for pattern in [()] + small_patterns(len(names)):
                rows = listed_rows(names, pattern)
                self.assertEqual([nth_groups(names, pattern, k) for k in range(len(rows))], rows)
                self.assertEqual([groups_rank(names, pattern, row) for row in rows], list(range(len(rows))))

    def test_seven_names(self):
        for pattern in ((3, 2, 2), (2, 2, 2), (4, 3), (3, 3), (5, 2)):
            rows = listed_rows(range(7), pattern)
            self.assertEqual([nth_groups(tuple(range(7)), pattern, k) for k in range(len(rows))], rows)

    def test_twelve_names(self):
        for pattern in patterns(12):
            many = ways(12, pattern)
            found = [nth_groups(TWELVE, pattern, k) for k in sorted({0, many // 3, many // 2, many - 1})]
            self.assertEqual(found, sorted(found))
            ranks = [groups_rank(TWELVE, pattern, row) for row in found]
            self.assertEqual(ranks, sorted({0, many // 3, many // 2, many - 1}))
        self.assertEqual(nth_groups(TWELVE, (2,) * 6, 10394), ((0, 11), (1, 10), (2, 9), (3, 8), (4, 7), (5, 6)))
        self.assertEqual(nth_groups(TWELVE, (3, 2), 0), ((0, 1), (2, 3, 4)))

    def test_names_wrong(self):
        for function, last in ((nth_groups, 0), (groups_rank, ())):
            self.refused(BadNames, 12, function, tuple(range(13)), (1,), last)
            self.refused(BadNames, 12, function, tuple(range(14)), (2,), last)
            self.refused(BadNames, 3, function, (0, 1, 2, 2) + tuple(range(20)), (2,), last)
            self.refused(BadNames, 1, function, (5, 4, 3), (2,), last)
            self.refused(BadNames, 2, function, (-5, 4, 3), (1,), last)
            self.refused(BadNames, 1, function, (0, 0), "", last)

    def test_patterns_wrong(self):
        for thing in ODD + (DEEP, (1,), (2, 3)):
            self.refused(BadDay, 0, nth_groups, (0, 1, 2), thing, -1)
            self.refused(BadDay, 0, groups_rank, (0, 1, 2), thing, "")

    def test_numbers_wrong(self):
        for k in (-1, 3, 10 ** 40, -10 ** 40):
            self.refused(BadCount, k, nth_groups, (0, 1, 5), (2,), k)
        self.refused(BadCount, 1, nth_groups, (0, 1, 5), (), 1)
        self.refused(BadCount, 0, nth_groups, (0, 1, 5), (4,), 0)
        self.refused(BadCount, 0, nth_groups, (0, 1, 5), LONG, 0)
        self.refused(BadCount, 0, nth_groups, (), (2,), 0)
        self.assertEqual(nth_groups((), (), 0), ())

    def test_rows_wrong(self):
        wrong = ODD + (DEEP, LONG, (), ((0, 1),), ((0, 1), (4, 7)), ((4, 7), (0, 1, 2)), ((0, 1), (1, 4, 7)),
                       ((0, 1), (2, 4, 7), (8, 9)), ((1, 0), (2, 4, 7)), ((0, 3), (2, 4, 7)), ((0, True), (2, 4, 7)),
                       ((0, 1), (2, 4, "7")), ((0, 1), (2, 4, 4)), ((0, 1), (2, 4), (7,)))
        for row in wrong:
            self.refused(BadRow, 0, groups_rank, (0, 1, 2, 4, 7), (3, 2), row)
        self.assertEqual(groups_rank((0, 1, 2, 4, 7), (3, 2), ((0, 1), (2, 4, 7))), 0)
        self.refused(BadRow, 0, groups_rank, (0, 1), (3,), ((0, 1, 2),))


if __name__ == "__main__":
    unittest.main()
