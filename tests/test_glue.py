import unittest

from datedlines.calendarlooks import plain
from datedlines.calendars import Calendar
from datedlines.errors import BadRow, BadSize
from datedlines.glue import glued
from datedlines.heads import headed
from datedlines.nthtree import nth_tree
from datedlines.numbers import size
from datedlines.rests import rest, rest_tree
from datedlines.trees import is_tree
from support import (DEEP, LATE, LATE_MANY, LATE_TWELVE, MIXED, ODD, PAIRS, PLAIN_TWELVE, SINGLE, TWO_LEFT, WIDE, Case,
                     calendar_of, listed_trees, small_calendars)


class GluedTest(Case):
    def test_glued(self):
        self.assertEqual(glued(plain(4), (((0, 1),),), (((1, 2),), ((0, 1),))), (((0, 1),), ((2, 3),), ((0, 2),)))
        self.assertEqual(glued(plain(3), (), (((0, 2),), ((0, 1),))), (((0, 2),), ((0, 1),)))
        self.assertEqual(glued(plain(3), (((0, 2),), ((0, 1),)), ()), (((0, 2),), ((0, 1),)))
        self.assertEqual(glued(SINGLE, (), ()), ())

    def test_leaves_of_the_rest_in_order(self):
        # At moment 1 the lines 1, 2 are the leaves 0, 1 of the rest, newborn 3 is 2; leaf 0, born later, is 3.
        calendar = calendar_of((2, 0, 0, 1, 0), (2,), (2,), (3,))
        self.assertEqual(rest(calendar, 1), Calendar((0, 0, 0, 1), ((2,), (3,))))
        later = (((1, 2),), ((0, 1, 3),))
        self.assertEqual(glued(calendar, (((1, 4),),), later), (((1, 4),), ((2, 3),), ((0, 1, 2),)))

    def test_against_all_trees(self):
        for calendar in small_calendars(4, 3) + [plain(4), LATE, TWO_LEFT, PAIRS, MIXED]:
            trees = listed_trees(calendar)
            for d in range(len(calendar.days) + 1):
                for tree in trees:
                    self.assertEqual(glued(calendar, tree[:d], rest_tree(calendar, tree, d)), tree)

    def test_each_pair_gives_another_tree(self):
        for calendar in (plain(4), LATE, TWO_LEFT, PAIRS, MIXED):
            trees = listed_trees(calendar)
            for d in range(len(calendar.days) + 1):
                heads = sorted(set(tree[:d] for tree in trees))
                found = [glued(calendar, head, later) for head in heads for later in listed_trees(rest(calendar, d))]
                self.assertEqual(sorted(found), trees)

    def test_twelve_leaves(self):
        for calendar in (PLAIN_TWELVE, WIDE, LATE_TWELVE, LATE_MANY):
            head = nth_tree(calendar, size(calendar) // 2)[:3]
            left = rest(calendar, 3)
            tree = glued(calendar, head, nth_tree(left, size(left) - 1))
            self.assertIs(is_tree(calendar, tree), True)
            self.assertEqual(headed(calendar, tree[:3])[1], size(left))

    def test_rows_wrong(self):
        self.refused(BadSize, 4, glued, plain(4), ((),) * 4, 9)
        self.refused(BadRow, 1, glued, plain(4), (((0, 1),), ((1, 2),)), 9)
        for odd in ODD + (DEEP,):
            self.refused(BadRow, 0, glued, plain(4), (odd,), 9)

    def test_later_wrong(self):
        head = (((0, 1),),)
        for later in ((), (((0, 1),),), (((0, 1),), ((0, 1),), ((0, 1),)), (1, 2, 3, 4)):
            self.refused(BadSize, len(later), glued, plain(4), head, later)
        self.refused(BadRow, (1,), glued, plain(4), head, (((1, 2),), ((0, 2),)))
        # The leaf 3 is none of the rest, though a line of the calendar has this name.
        self.refused(BadRow, (0,), glued, plain(4), head, (((2, 3),), ((0, 2),)))
        for odd in ODD + (DEEP,):
            self.refused(BadRow, (1,), glued, plain(4), head, (((1, 2),), odd))


if __name__ == "__main__":
    unittest.main()
