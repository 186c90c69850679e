import unittest
from itertools import combinations, product

from datedlines.calendarlooks import plain
from datedlines.errors import BadRow, BadSize
from datedlines.trees import is_tree, made_tree
from support import (DEEP, LATE, LONG, MIXED, ODD, PAIRS, PLAIN_TWELVE, SINGLE, TWO_LEFT, Case, calendar_of,
                     listed_trees, small_calendars)

TREE = (((0, 1),), ((2, 3),), ((0, 2),))
DAYS = tuple(((0, x),) for x in range(1, 12))


class TreesTest(Case):
    def test_made_tree(self):
        self.assertIs(made_tree(plain(4), TREE), TREE)
        self.assertEqual(made_tree(calendar=plain(4), rows=TREE), TREE)
        self.assertEqual(made_tree(SINGLE, ()), ())
        self.assertEqual(made_tree(PLAIN_TWELVE, DAYS), DAYS)
        late = (((0, 1),), ((2, 3),), ((0, 2, 4),))
        self.assertEqual(made_tree(LATE, late), late)

    def test_sizes_in_any_order(self):
        calendar = calendar_of((0,) * 5, (3, 2))
        for row in (((0, 1), (2, 3, 4)), ((0, 1, 2), (3, 4)), ((0, 4), (1, 2, 3)), ((0, 2, 4), (1, 3))):
            self.assertEqual(made_tree(calendar, (row,)), (row,))

    def test_row_count(self):
        for rows in ((), TREE[:2], TREE + (((0, 1),),), ((0, 1),), LONG):
            self.refused(BadSize, len(rows), made_tree, plain(4), rows)
            self.assertIs(is_tree(plain(4), rows), False)
        self.refused(BadSize, 1, made_tree, SINGLE, (DEEP,))

    def test_groups_that_are_none(self):
        wrong = [(group,) for group in ODD + (DEEP, LONG)] + list(ODD)
        wrong += [(), ((),), ((0,),), ((1, 0),), ((0, 0),), ((0, 1, 2),), ((0, 4),), ((-1, 0),), ((0, 10 ** 40),)]
        wrong += [((False, True),), ((0, True),), ((False, 1),), (("0", "1"),), ((0, "1"),), ((0, (1,)),), "01", 0]
        wrong += [((0, 1), (2, 3)), ((0, 1), ()), ((), (0, 1)), (((0, 1),),), (0, 1), DEEP, LONG]
        for row in wrong:
            self.refused(BadRow, 0, made_tree, plain(4), (row, row, row))
            self.assertIs(is_tree(plain(4), (row,) + TREE[1:]), False)

    def test_names_of_lines_that_are_alive(self):
        # The name 1 is gone when 0 and 1 are one line.
        self.refused(BadRow, 1, made_tree, plain(4), (((0, 1),), ((1, 2),), ((0, 3),)))
        self.refused(BadRow, 2, made_tree, plain(4), (((0, 1),), ((2, 3),), ((0, 3),)))
        # The leaf 2 is not yet born.
        self.refused(BadRow, 0, made_tree, LATE, (((0, 2),), ((0, 3),), ((0, 1, 4),)))
        self.refused(BadRow, 1, made_tree, LATE, (((0, 1),), ((0, 4),), ((0, 2, 3),)))

    def test_order_within_a_row(self):
        for row in (((2, 3), (0, 1)), ((0, 1), (0, 1)), ((0, 1), (1, 2)), ((0, 1), (0, 2)), ((1, 0), (2, 3))):
            self.refused(BadRow, 0, made_tree, PAIRS, (row, ((0, 2),)))
        self.refused(BadRow, 1, made_tree, MIXED, (((0, 1, 2), (3, 4)), ((3, 6), (0, 5))))

    def test_first_bad_row(self):
        self.refused(BadRow, 1, made_tree, plain(4), (((0, 1),), "", ""))
        self.refused(BadRow, 2, made_tree, plain(4), TREE[:2] + (((0, 1),),))
        self.refused(BadSize, 2, made_tree, plain(4), ("", ""))

    def test_is_tree_of_any_thing(self):
        for thing in ODD + (DEEP, LONG, (LONG,) * 3, (DEEP, DEEP, DEEP), "abc", ("a", "b", "c")):
            self.assertIs(is_tree(plain(4), thing), False)
            self.assertIs(is_tree(SINGLE, thing), False)
        self.assertIs(is_tree(SINGLE, ()), True)
        self.assertIs(is_tree(plain(4), TREE), True)

    def test_all_small_ones(self):
        for calendar in small_calendars(4, 2):
            trees = listed_trees(calendar)
            for tree in trees:
                self.assertIs(is_tree(calendar, tree), True)
                self.assertIs(made_tree(calendar, tree), tree)

    def test_just_the_listed_ones(self):
        groups = [g for size in range(1, 4) for g in combinations(range(4), size)]
        rows = [row for many in range(3) for row in product(groups, repeat=many)]
        for calendar in (plain(3), PAIRS, calendar_of((0, 0, 1, 0), (2,), (3,)), calendar_of((0, 1, 0), (2,), (2,))):
            good = [tree for tree in product(rows, repeat=2) if is_tree(calendar, tree)]
            self.assertEqual(sorted(good), listed_trees(calendar))

    def test_several_lines_left(self):
        self.assertIs(is_tree(TWO_LEFT, (((0, 1),), ((0, 2),), ((0, 3),))), True)
        # The leaf 4 is born behind all days.
        self.assertIs(is_tree(TWO_LEFT, (((0, 1),), ((0, 2),), ((0, 4),))), False)


if __name__ == "__main__":
    unittest.main()
