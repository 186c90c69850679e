import unittest

from datedlines.calendarlooks import plain, star
from datedlines.errors import BadDeed, BadRow, BadSize, TooMany
from datedlines.nthtree import nth_tree
from datedlines.numbers import size
from datedlines.runs import run_between, walked
from support import (LATE, MIXED, ODD, PAIRS, PLAIN_TWELVE, SINGLE, TWO_LEFT, WIDE, Case, calendar_of,
                     exchanged_sets, listed_rows, listed_trees, small_calendars)

CHAIN = (((0, 1),), ((0, 2),))
TREE = (((0, 1),), ((2, 3),), ((0, 2),))
WIDE_ONE = (((0, 1, 2), (3, 4), (5, 6)), ((0, 3), (5, 7)), ((0, 5), (8, 9, 10)), ((0, 8),), ((0, 11),))
WIDE_TWO = (((0, 11), (1, 10), (2, 3, 4)), ((0, 1), (5, 6)), ((2, 7), (5, 8, 9)), ((0, 5),), ((0, 2),))


def told_run(calendar, one, two):
    """The run from one tree to another, word for word as the document tells it."""
    run = []
    tree = one
    for d in range(len(two)):
        taken = set()
        for g in sorted(sorted(two[d]), key=len, reverse=True):
            left = [h for h in tree[d] if h not in taken]
            most = max(len(h) for h in left)
            h = min(h for h in left if len(h) == most)
            for a, b in zip(sorted(set(h) - set(g)), sorted(set(g) - set(h))):
                run.append(("change", d, min(a, b), max(a, b)))
                tree = exchanged_sets(calendar, tree, d, min(a, b), max(a, b))
            taken.add(g)
    return tuple(run)


class RunsTest(Case):
    def test_walked(self):
        self.assertEqual(walked(SINGLE, (), ()), ())
        self.assertEqual(walked(plain(3), CHAIN, ()), CHAIN)
        self.assertEqual(walked(plain(3), CHAIN, (("change", 0, 1, 2),)), (((0, 2),), ((0, 1),)))
        run = (("change", 0, 1, 3), ("change", 1, 0, 2), ("change", 0, 0, 2), ("change", 2, 0, 1))
        tree = TREE
        for deed in run:
            tree = exchanged_sets(plain(4), tree, *deed[1:])
        self.assertEqual(walked(plain(4), TREE, run), tree)

    def test_longest_runs(self):
        deed = ("change", 0, 1, 2)
        self.assertEqual(walked(plain(3), CHAIN, (deed,) * 1000), CHAIN)
        self.assertEqual(walked(plain(3), CHAIN, (deed,) * 999), (((0, 2),), ((0, 1),)))
        self.refused(TooMany, 1001, walked, plain(3), CHAIN, (deed,) * 1001)
        self.refused(TooMany, 1001, walked, plain(3), CHAIN, ("",) * 1001)
        self.refused(TooMany, 10 ** 5, walked, SINGLE, (), (True,) * 10 ** 5)

    def test_walked_wrong(self):
        good = ("change", 0, 1, 2)
        for thing in ODD:
            self.refused(BadDeed, (0, 0), walked, plain(3), CHAIN, (thing,))
            self.refused(BadDeed, (2, 0), walked, plain(3), CHAIN, (good, good, thing, ("change", 9, 0, 1)))
        self.refused(BadDeed, (1, 1), walked, plain(3), CHAIN, (good, ("change", 2, 0, 1), ""))
        self.refused(BadDeed, (0, 2), walked, plain(3), CHAIN, (("change", 1, 0, 1), ""))
        # The line 1 is alive at moment 1 before the first deed, but not behind it.
        tree = (((0, 2),), ((0, 1),))
        self.assertEqual(walked(plain(3), tree, (("change", 1, 0, 1),)), tree)
        self.refused(BadDeed, (1, 2), walked, plain(3), tree, (good, ("change", 1, 0, 1)))
        self.refused(BadDeed, (999, 0), walked, plain(3), CHAIN, (good,) * 999 + (0,))

    def test_run_between(self):
        self.assertEqual(run_between(SINGLE, (), ()), ())
        self.assertEqual(run_between(plain(3), CHAIN, CHAIN), ())
        self.assertEqual(run_between(plain(3), CHAIN, (((0, 2),), ((0, 1),))), (("change", 0, 1, 2),))
        self.assertEqual(run_between(plain(4), TREE, (((2, 3),), ((0, 1),), ((0, 2),))),
                         (("change", 0, 0, 2), ("change", 0, 1, 3)))
        self.assertEqual(run_between(star(3), (((0, 1, 2),),), (((0, 1, 2),),)), ())

    def test_groups_in_the_order_of_sizes(self):
        calendar = calendar_of((0,) * 5, (3, 2))
        one = (((0, 1), (2, 3, 4)),)
        two = (((0, 1, 4), (2, 3)),)
        self.assertEqual(run_between(calendar, one, two), (("change", 0, 0, 2), ("change", 0, 1, 3)))
        self.assertEqual(run_between(calendar, two, one), (("change", 0, 0, 2), ("change", 0, 1, 3)))

    def test_pairs_of_groups_that_are_not_taken(self):
        one = (((0, 1), (2, 3)), ((0, 2),))
        two = (((0, 2), (1, 3)), ((0, 1),))
        self.assertEqual(run_between(PAIRS, one, two), (("change", 0, 1, 2),))
        one = (((0, 3), (4, 5), (6, 7)),)
        two = (((1, 2), (3, 4), (5, 6)),)
        expected = tuple(("change", 0, a, b) for a, b in ((0, 1), (2, 3), (3, 5), (5, 7)))
        calendar = calendar_of((0,) * 8, (2, 2, 2))
        self.assertEqual(run_between(calendar, one, two), expected)
        self.assertEqual(walked(calendar, one, expected), two)

    def test_all_small_ones(self):
        for calendar in small_calendars(4, 2) + [plain(4), LATE, TWO_LEFT]:
            trees = listed_trees(calendar)
            for one in trees:
                for two in trees:
                    run = run_between(calendar, one, two)
                    self.assertEqual(walked(calendar, one, run), two)
                    self.assertEqual(run, told_run(calendar, one, two))

    def test_large_ones(self):
        for calendar, trees in ((MIXED, listed_trees(MIXED)[::11]), (WIDE, [WIDE_ONE, WIDE_TWO]),
                                (calendar_of((0,) * 7, (3, 2, 2)), [(row,) for row in rows_of_seven()])):
            most = sum(sum(pattern) for pattern in calendar.days)
            for one in trees:
                for two in trees:
                    run = run_between(calendar, one, two)
                    self.assertEqual(run, told_run(calendar, one, two))
                    self.assertEqual(walked(calendar, one, run), two)
                    self.assertLessEqual(len(run), most)

    def test_twelve_leaves_and_eleven_days(self):
        trees = [nth_tree(PLAIN_TWELVE, size(PLAIN_TWELVE) * part // 9) for part in range(9)]
        for one in trees:
            for two in trees:
                run = run_between(PLAIN_TWELVE, one, two)
                self.assertEqual(run, told_run(PLAIN_TWELVE, one, two))
                self.assertEqual(walked(PLAIN_TWELVE, one, run), two)
                self.assertLessEqual(len(run), 22)

    def test_trees_are_asked_in_their_order(self):
        bad = (((0, 1),), ((1, 2),))
        self.refused(BadSize, 1, run_between, plain(3), CHAIN[:1], bad)
        self.refused(BadRow, 1, run_between, plain(3), bad, CHAIN[:1])
        self.refused(BadSize, 1, run_between, plain(3), CHAIN, CHAIN[:1])
        self.refused(BadRow, 0, run_between, plain(3), CHAIN, ("",) + CHAIN[1:])
        self.refused(BadRow, 1, walked, plain(3), bad, ("",) * 1001)
        self.refused(BadSize, 0, walked, plain(3), (), ("",) * 1001)


def rows_of_seven():
    """Some of the rows of seven names with the sizes 3, 2, 2."""
    return listed_rows(range(7), (3, 2, 2))[::9]


if __name__ == "__main__":
    unittest.main()
