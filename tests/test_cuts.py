import unittest
from itertools import combinations

from datedlines.calendarlooks import plain, star
from datedlines.calendars import Calendar, made_calendar
from datedlines.cuts import cut, placed
from datedlines.errors import BadDay, BadSet, BadSize, TooFew
from datedlines.nthtree import nth_tree
from datedlines.numbers import size
from datedlines.patterns import choose
from datedlines.treeroads import met_on
from datedlines.trees import is_tree
from support import (LATE, LATE_MANY, LATE_TWELVE, MIXED, ODD, PAIRS, PLAIN_TWELVE, SINGLE, TREE, TWO_LEFT, WIDE,
                     WRONG_SETS, Case, joint_sets, listed_rows, lowest, small_calendars, small_patterns, subsets,
                     trees_of, unfolded)


def falling_rows(most):
    """All never rising tuples of numbers from 1 on with a sum of at most so much."""
    found = [()]
    for b in range(1, most + 1):
        found.extend([(b,) + later for later in falling_rows(most - b) if not later or later[0] <= b])
    return found


def listed_placed(k, pattern, blocks):
    """The share of the rows of k lines behind which the first lines are just these blocks."""
    start = 0
    lots = []
    for b in blocks:
        lots.append(set(range(start, start + b)))
        start += b
    rows = listed_rows(range(k), pattern) if pattern else [()]
    good = 0
    for row in rows:
        behind = [set(group) for group in row]
        behind += [{x} for x in range(k) if not any(x in group for group in row)]
        kept = sorted([sorted(x for x in lot if x < start) for lot in behind])
        good += [lot for lot in kept if lot] == [sorted(lot) for lot in lots]
    return lowest(good, len(rows))


class PlacedTest(Case):
    def test_placed(self):
        self.assertEqual(placed(4, (2,), (2, 1)), (1, 6))
        self.assertEqual(placed(0, (), ()), (1, 1))
        self.assertEqual(placed(12, (12,), ()), (1, 1))
        self.assertEqual(placed(12, (12,), (12,)), (1, 1))
        self.assertEqual(placed(12, (12,), (11, 1)), (0, 1))
        self.assertEqual(placed(12, (), (1,) * 12), (1, 1))
        self.assertEqual(placed(3, (2,), (1, 1)), (2, 3))
        self.assertEqual(placed(3, (2,), (3,)), (0, 1))

    def test_against_all_rows(self):
        for k in range(7):
            for pattern in [()] + small_patterns(k):
                for blocks in falling_rows(k):
                    self.assertEqual(placed(k, pattern, blocks), listed_placed(k, pattern, blocks))

    def test_twelve_lines(self):
        for pattern in ((4, 3, 3, 2), (6, 6), (5, 2), (2,) * 6):
            for blocks in ((4, 3), (2, 2, 2, 1, 1), (1,) * 3, (3, 1)):
                if sum(blocks) <= 5:
                    self.assertEqual(placed(12, pattern, blocks), self.placed_of_few(pattern, blocks))
        # Two lots of six in their two groups, either way round.
        self.assertEqual(placed(12, (6, 6), (6, 6)), lowest(2, choose(12, 6)))
        self.assertEqual(placed(12, (2,) * 6, (2,) * 6), (1, 10395))
        self.assertEqual(placed(12, (2,) * 6, (1,) * 7), (0, 1))
        # Of seven single lines two stand alone, and the others in the five groups, on either place of each.
        self.assertEqual(placed(12, (2,) * 5, (1,) * 7), lowest(2 ** 5, choose(12, 7)))
        self.assertEqual(placed(12, (2,) * 5, (1,) * 6), lowest(2 * 2 ** 5 + 5 * 2 ** 4, choose(12, 6)))

    def placed_of_few(self, pattern, blocks):
        """The share of the places, of those of the groups and single ones, that are right for few lines."""
        places = [g for g, s in enumerate(pattern) for _ in range(s)]
        places += [None] * (12 - len(places))
        lots = [i for i, b in enumerate(blocks) for _ in range(b)]
        good = 0
        every = 0
        stack = [()]
        while stack:
            begun = stack.pop()
            if len(begun) < len(lots):
                stack.extend([begun + (p,) for p in range(12) if p not in begun])
                continue
            every += 1
            good += all((places[p] is not None and places[p] == places[q]) == (lots[i] == lots[j])
                        for (i, p), (j, q) in combinations(enumerate(begun), 2))
        return lowest(good, every)

    def test_wrong(self):
        for k in (-1, 13, 10 ** 40):
            self.refused(BadSize, k, placed, k, "", (0,))
        for odd in ODD + ((1,), (2, 3), (0,)):
            if odd not in ((2,),):
                self.refused(BadDay, 0, placed, 4, odd, (0,))
        for blocks in ((0,), (-1,), (2, 0), (1, 2), (3, 1, 2), (-10 ** 40,), (1, 10 ** 40)):
            self.refused(BadSet, 0, placed, 4, (9,), blocks)
        for k, pattern, blocks in ((4, (5,), ()), (4, (3, 2), (1,)), (4, (2,), (5,)), (4, (), (2, 2, 1)), (0, (2,), ()),
                                   (0, (), (1,)), (4, (10 ** 40,), ()), (4, (2,), (10 ** 40,)), (1, (2,), (1,))):
            self.refused(TooFew, k, placed, k, pattern, blocks)


class CutTest(Case):
    def test_cut(self):
        self.assertEqual(cut(plain(4), TREE, (0, 1, 2)), (plain(3), (((0, 1),), ((0, 2),)), (0, 2)))
        self.assertEqual(cut(plain(4), TREE, (1, 3)), (plain(2), (((0, 1),),), (2,)))
        self.assertEqual(cut(plain(4), TREE, (3,)), (SINGLE, (), ()))
        self.assertEqual(cut(SINGLE, (), (0,)), (SINGLE, (), ()))

    def test_births(self):
        # Of the days 1 and 3 one lies ahead of the birth of the leaf 4, and both ahead of that of 5.
        calendar = Calendar((0, 0, 0, 0, 2, 4), ((2,), (2,), (2,), (2,)))
        tree = (((0, 3),), ((1, 2),), ((0, 4),), ((0, 1),))
        small = Calendar((0, 0, 1, 2), ((2,), (2,)))
        self.assertEqual(cut(calendar, tree, (1, 2, 4, 5)), (small, (((0, 1),), ((0, 2),)), (1, 3)))

    def test_names_are_found_anew(self):
        calendar = Calendar((0,) * 7, ((3, 2, 2), (3,)))
        tree = (((0, 5), (1, 3, 6), (2, 4)), ((0, 1, 2),))
        small = Calendar((0,) * 5, ((2, 2), (2,)))
        self.assertEqual(cut(calendar, tree, (2, 3, 4, 5, 6)), (Calendar((0,) * 5, ((2, 2), (3,))),
                                                                (((0, 2), (1, 4)), ((0, 1, 3),)), (0, 1)))
        self.assertEqual(cut(calendar, tree, (1, 2, 3, 4))[0], Calendar((0,) * 4, small.days))

    def test_all_leaves(self):
        for calendar in small_calendars(4, 3)[::3] + [LATE, TWO_LEFT, PAIRS, plain(5)]:
            for tree in trees_of(calendar):
                some = tuple(range(len(calendar.born)))
                self.assertEqual(cut(calendar, tree, some), (calendar, tree, tuple(range(len(tree)))))

    def test_two_leaves(self):
        for calendar in (plain(4), LATE, TWO_LEFT, star(4)):
            for tree in trees_of(calendar):
                for x, y in combinations(range(len(calendar.born)), 2):
                    day = met_on(calendar, tree, x, y)
                    self.assertEqual(cut(calendar, tree, (x, y))[2], () if day is None else (day,))

    def test_all_small_ones(self):
        for calendar in small_calendars(4, 2) + small_calendars(4, 3)[::9] + [LATE, TWO_LEFT, PAIRS, plain(5)]:
            for tree in trees_of(calendar):
                for some in subsets(range(len(calendar.born))):
                    self.assert_cut(calendar, tree, some)

    def assert_cut(self, calendar, tree, some):
        small, found, days = cut(calendar, tree, some)
        self.assertEqual(made_calendar(small.born, small.days), small)
        self.assertIs(is_tree(small, found), True)
        told = {}
        for d, day in enumerate(joint_sets(calendar, tree)):
            for joint in day:
                kept = frozenset(line & set(some) for line in joint if line & set(some))
                if len(kept) > 1:
                    told.setdefault(d, set()).add(kept)
        self.assertEqual(days, tuple(told))
        lots = [frozenset([x]) for x in some]
        unfolded_days = [{unfolded(joint, lots) for joint in day} for day in joint_sets(small, found)]
        self.assertEqual(unfolded_days, list(told.values()))
        self.assertEqual(small.born, tuple(len([d for d in told if d < calendar.born[x]]) for x in some))

    def test_twelve_leaves(self):
        for calendar in (PLAIN_TWELVE, LATE_TWELVE, LATE_MANY, WIDE, MIXED):
            tree = nth_tree(calendar, size(calendar) // 3)
            for some in subsets(range(len(calendar.born)))[::97]:
                self.assert_cut(calendar, tree, some)

    def test_wrong(self):
        self.refuses_trees(cut, ())
        for some, i in WRONG_SETS:
            self.refused(BadSet, i, cut, plain(4), TREE, some)


if __name__ == "__main__":
    unittest.main()
