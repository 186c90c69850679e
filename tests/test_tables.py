import unittest

from datedlines.calendarlooks import plain
from datedlines.calendars import Calendar
from datedlines.errors import BadSet
from datedlines.nthtree import nth_tree
from datedlines.numbers import size
from datedlines.tables import table_of
from datedlines.treeroads import met_on
from support import (LATE, LATE_MANY, PAIRS, PLAIN_TWELVE, SINGLE, TREE, TWO_LEFT, WRONG_SETS, Case, first_of, line_of,
                     sets_behind, small_calendars, subsets, trees_of)


class TableOfTest(Case):
    def test_table_of(self):
        self.assertEqual(table_of(plain(4), TREE, (0, 1, 2, 3)), ((0, 2, 2), (2, 2), (1,)))
        self.assertEqual(table_of(plain(4), TREE, (1, 3)), ((2,),))
        self.assertEqual(table_of(plain(4), (((0, 1),), ((0, 2),), ((0, 3),)), (0, 1, 2)), ((0, 1), (1,)))

    def test_never(self):
        self.assertEqual(table_of(TWO_LEFT, (((0, 1),), ((2, 3),), ((0, 2),)), (0, 3, 4)), ((2, None), (None,)))
        self.assertEqual(table_of(Calendar((0, 0, 0), ()), (), (0, 1, 2)), ((None, None), (None,)))

    def test_against_sets(self):
        for calendar in small_calendars(4, 2) + [LATE, TWO_LEFT, PAIRS, plain(5)]:
            for tree in trees_of(calendar):
                behind = [sets_behind(calendar, tree, d) for d in range(len(tree))]
                for some in subsets(range(len(calendar.born)), 2):
                    told = []
                    for i, x in enumerate(some[:-1]):
                        days = [first_of(behind, lambda _, lots: y in (line_of(lots, x) or ())) for y in some[i + 1:]]
                        told.append(tuple(d if d < len(tree) else None for d in days))
                    self.assertEqual(table_of(calendar, tree, some), tuple(told))

    def test_twelve_leaves(self):
        for calendar in (PLAIN_TWELVE, LATE_MANY):
            tree = nth_tree(calendar, size(calendar) // 3)
            table = table_of(calendar, tree, tuple(range(12)))
            self.assertEqual([len(row) for row in table], list(range(11, 0, -1)))
            for i in range(12):
                for j in range(i + 1, 12):
                    self.assertEqual(table[i][j - i - 1], met_on(calendar, tree, i, j))

    def test_wrong(self):
        self.refuses_trees(table_of, ())
        for some, i in WRONG_SETS:
            self.refused(BadSet, i, table_of, plain(4), TREE, some)
        for x in range(4):
            self.refused(BadSet, 1, table_of, plain(4), TREE, (x,))
        self.refused(BadSet, 1, table_of, SINGLE, (), (0,))


if __name__ == "__main__":
    unittest.main()
