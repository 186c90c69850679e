import unittest
from itertools import permutations, product
from math import factorial

from datedlines.calendarlooks import plain, star
from datedlines.calendars import Calendar
from datedlines.depthcalendars import depth_calendar
from datedlines.errors import BadCount, BadRow, BadSize
from datedlines.nthtree import tree_rank
from datedlines.numbers import size
from datedlines.ordered import made_ordered, nth_ordered, ordered_rank, ordered_size, plain_of
from support import (DEEP, LATE, LATE_MANY, MIXED, ODD, PAIRS, PLAIN_TWELVE, SINGLE, TREE, TWO_LEFT, WIDE, Case,
                     small_calendars, trees_of)


def listed_ordered(calendar):
    """All ordered trees with their plain trees, in the order of their numbers: for each tree all orders."""
    found = []
    for tree in trees_of(calendar):
        groups = [group for row in tree for group in row]
        for orders in product(*[list(permutations(group)) for group in groups]):
            left = iter(orders)
            found.append((tuple(tuple(next(left) for _ in row) for row in tree), tree))
    return found


class OrderedTest(Case):
    def test_plain_two(self):
        self.assertEqual([nth_ordered(plain(2), k) for k in (0, 1)], [(((0, 1),),), (((1, 0),),)])
        self.assertEqual([ordered_rank(plain(2), ordered) for ordered in ((((0, 1),),), (((1, 0),),))], [0, 1])

    def test_size(self):
        level = depth_calendar((2, 2, 2, 2), 2)
        self.assertEqual((size(level), ordered_size(level)), (3, 24))
        self.assertEqual(ordered_size(SINGLE), 1)
        self.assertEqual(ordered_size(star(12)), factorial(12))
        self.assertEqual(ordered_size(PLAIN_TWELVE), size(PLAIN_TWELVE) * 2 ** 11)
        self.assertEqual(ordered_size(WIDE), size(WIDE) * 6 * 4 * 4 * 12 * 4)

    def test_edges(self):
        for function in (made_ordered, plain_of):
            self.assertEqual(function(SINGLE, ()), ())
        self.assertEqual(nth_ordered(SINGLE, 0), ())
        self.assertEqual(ordered_rank(SINGLE, ()), 0)

    def test_figures(self):
        # The last group has the lowest figure; the group of three has 6 orders.
        calendar = Calendar((0,) * 5, ((3, 2),))
        first = (((0, 1), (2, 3, 4)),)
        self.assertEqual(nth_ordered(calendar, 0), first)
        self.assertEqual(nth_ordered(calendar, 3), (((0, 1), (3, 4, 2)),))
        self.assertEqual(nth_ordered(calendar, 6), (((1, 0), (2, 3, 4)),))
        self.assertEqual(nth_ordered(calendar, 12), (((0, 1, 2), (3, 4)),))
        self.assertEqual(nth_ordered(calendar, 13), (((0, 1, 2), (4, 3)),))
        self.assertEqual(nth_ordered(calendar, 14), (((0, 2, 1), (3, 4)),))

    def test_against_all_ordered_trees(self):
        calendars = small_calendars(3, 2) + small_calendars(4, 2)[::5] + [LATE, PAIRS, TWO_LEFT, plain(4), star(5)]
        for calendar in calendars:
            found = listed_ordered(calendar)
            self.assertEqual(ordered_size(calendar), len(found))
            for k, (ordered, tree) in enumerate(found):
                self.assertEqual(nth_ordered(calendar, k), ordered)
                self.assertEqual(ordered_rank(calendar, ordered), k)
                self.assertEqual(plain_of(calendar, ordered), tree)
                self.assertIs(made_ordered(calendar, ordered), ordered)

    def test_twelve_leaves(self):
        for calendar in (PLAIN_TWELVE, WIDE, LATE_MANY, star(12), MIXED):
            many = ordered_size(calendar)
            for k in (0, 1, many // 3, many // 2, many - 1):
                ordered = nth_ordered(calendar, k)
                self.assertEqual(ordered_rank(calendar, ordered), k)
                plain_rank = tree_rank(calendar, plain_of(calendar, ordered))
                self.assertEqual(plain_rank, k // (many // size(calendar)))

    def test_wrong_numbers(self):
        for calendar in (SINGLE, plain(2), PAIRS, PLAIN_TWELVE):
            for k in (-1, ordered_size(calendar), 10 ** 80, -10 ** 80):
                self.refused(BadCount, k, nth_ordered, calendar, k)

    def test_order_of_groups(self):
        # The groups ascend by their least names, not as tuples.
        fine = (((3, 0), (1, 2)), ((1, 0),))
        self.assertIs(made_ordered(PAIRS, fine), fine)
        self.assertEqual(plain_of(PAIRS, fine), (((0, 3), (1, 2)), ((0, 1),)))
        for function in (made_ordered, plain_of, ordered_rank):
            self.refused(BadRow, 0, function, PAIRS, (((1, 2), (3, 0)), ((1, 0),)))

    def test_wrong_rows(self):
        for function in (made_ordered, plain_of, ordered_rank):
            for rows in ((), TREE[:2], TREE + ("",)):
                self.refused(BadSize, len(rows), function, plain(4), rows)
            for odd in ODD + (DEEP, (), ((),), ((0,),), ((0, 0),), ((1, 0, 1),), ((4, 0),), ((0, -1),), ((0, 1, 2),),
                              ((1, 0), (3, 2)), ((0, "1"),), (("1", 0),), ((0, (1,)),), ((0, True),), ((False, 1),),
                              ((0, 10 ** 40),), ((1, 0), ""), ("10",), (0, 1)):
                self.refused(BadRow, 0, function, plain(4), (odd,) + TREE[1:])
                self.refused(BadRow, 0, function, plain(4), (odd, odd, odd))
            for odd in ODD + (((1, 0),), ((2, 1),), ((0, 0),)):
                self.refused(BadRow, 1, function, plain(4), (((1, 0),), odd, odd))
            self.refused(BadRow, 0, function, LATE, (((2, 0),),) * 3)
            self.refused(BadRow, 0, function, PAIRS, (((0, 1), (2, 0)), ((0, 1),)))


if __name__ == "__main__":
    unittest.main()
