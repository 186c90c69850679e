import unittest

from datedlines.calendarlooks import plain, star
from datedlines.classes import class_of
from datedlines.errors import BadRow, BadSize, TooMany
from datedlines.nearest import balls, fewest
from datedlines.numbers import size
from datedlines.runs import run_between
from support import (AT_LIMIT, LATE, LATE_TWELVE, ODD, OVER_LIMIT, PAIRS, PLAIN_TWELVE, SINGLE, TWO_LEFT, Case,
                     exchanged_sets, listed_trees, sets_at, small_calendars)

TREE = (((0, 1),), ((2, 3),), ((0, 2),))


def beside(calendar, tree):
    """All trees that one deed makes of the tree, from sets of leaves."""
    found = []
    for d in range(len(tree)):
        names = [min(lot) for lot in sets_at(calendar, tree, d)]
        found += [exchanged_sets(calendar, tree, d, a, b) for a in names for b in names if a < b]
    return found


def steps_between(calendar, trees):
    """The fewest deeds between each two trees: with each tree between them, the way over it."""
    steps = {(one, two): 0 if one == two else len(trees) for one in trees for two in trees}
    for one in trees:
        for two in beside(calendar, one):
            steps[one, two] = min(steps[one, two], 1)
    for over in trees:
        for one in trees:
            for two in trees:
                steps[one, two] = min(steps[one, two], steps[one, over] + steps[over, two])
    return steps


class NearestTest(Case):
    def test_fewest(self):
        self.assertEqual(fewest(plain(3), (((0, 1),), ((0, 2),)), (((0, 2),), ((0, 1),))), 1)
        self.assertEqual(fewest(plain(4), TREE, TREE), 0)
        self.assertEqual(fewest(SINGLE, (), ()), 0)

    def test_balls(self):
        self.assertEqual(balls(plain(3), (((0, 1),), ((0, 2),))), (1, 2))
        self.assertEqual(balls(SINGLE, ()), (1,))
        self.assertEqual(balls(star(12), ((tuple(range(12)),),)), (1,))
        self.assertEqual(balls(plain(2), (((0, 1),),)), (1,))

    def test_against_all_ways(self):
        for calendar in small_calendars(4, 3)[::2] + [plain(4), LATE, TWO_LEFT, PAIRS]:
            trees = listed_trees(calendar)
            steps = steps_between(calendar, trees)
            for one in trees:
                counts = [0] * (1 + max(steps[one, two] for two in trees))
                for two in trees:
                    self.assertEqual(fewest(calendar, one, two), steps[one, two])
                    self.assertLessEqual(steps[one, two], len(run_between(calendar, one, two)))
                    counts[steps[one, two]] += 1
                self.assertEqual(balls(calendar, one), tuple(counts))

    def test_the_limit(self):
        trees = class_of(AT_LIMIT)
        found = balls(AT_LIMIT, trees[0])
        self.assertEqual(sum(found), 2000)
        self.assertEqual(fewest(AT_LIMIT, trees[0], trees[1999]), fewest(AT_LIMIT, trees[1999], trees[0]))
        self.assertLess(fewest(AT_LIMIT, trees[0], trees[1999]), len(found))
        over = (((0, 1),), ((0, 2, 3, 4, 5),))
        self.refused(TooMany, 2016, fewest, OVER_LIMIT, over, over)
        self.refused(TooMany, 2016, balls, OVER_LIMIT, over)
        first = tuple(((0, x),) for x in range(1, 12))
        self.refused(TooMany, size(PLAIN_TWELVE), fewest, PLAIN_TWELVE, first, first)
        self.refused(TooMany, size(PLAIN_TWELVE), balls, PLAIN_TWELVE, first)

    def test_twelve_leaves(self):
        self.assertEqual(size(LATE_TWELVE), 1)
        self.assertEqual(balls(LATE_TWELVE, tuple(((0, x),) for x in range(1, 12))), (1,))

    def test_trees_wrong(self):
        self.refused(BadSize, 2, balls, plain(4), TREE[:2])
        self.refused(BadSize, 2, fewest, plain(4), TREE[:2], TREE[:1])
        self.refused(BadSize, 1, fewest, plain(4), TREE, TREE[:1])
        for odd in ODD:
            self.refused(BadRow, 0, balls, plain(4), (odd,) + TREE[1:])
            self.refused(BadRow, 0, fewest, plain(4), (odd,) + TREE[1:], ())
            self.refused(BadRow, 0, fewest, plain(4), TREE, (odd,) + TREE[1:])

    def test_bad_trees_before_too_many(self):
        self.refused(BadSize, 0, balls, OVER_LIMIT, ())
        self.refused(BadSize, 0, fewest, OVER_LIMIT, (((0, 1),), ((0, 2, 3, 4, 5),)), ())


if __name__ == "__main__":
    unittest.main()
