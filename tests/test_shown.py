import unittest
from itertools import combinations, product

from datedlines.calendarlooks import plain, star
from datedlines.calendars import Calendar, made_calendar
from datedlines.cuts import cut
from datedlines.cutshares import cut_count
from datedlines.errors import BadSet, BadSize, BadTable
from datedlines.nthtree import nth_tree
from datedlines.numbers import size
from datedlines.shown import shown, shown_count
from datedlines.tables import table_of
from datedlines.treeroads import met_on
from datedlines.trees import is_tree
from support import (LATE, LATE_MANY, LATE_TWELVE, MIXED, PAIRS, PLAIN_TWELVE, SINGLE, TREE, TWO_LEFT, WIDE,
                     WRONG_SETS, Case, small_calendars, subsets, trees_of)


def tables_of(q, entries):
    """All tuples of the form of a table with these entries."""
    rows = [product(entries, repeat=q - 1 - i) for i in range(q - 1)]
    return list(product(*rows))


def wrong_in(calendar, some, table):
    """The indexes that BadTable tells of a table of the right form, None if it is one."""
    entry = {}
    for i, j in combinations(range(len(some)), 2):
        d = entry[(i, j)] = table[i][j - i - 1]
        born = max(calendar.born[some[i]], calendar.born[some[j]])
        if d is not None and d not in range(born, len(calendar.days)):
            return (i, j)
    for i, j, k in combinations(range(len(some)), 3):
        days = [99 if entry[pair] is None else entry[pair] for pair in ((i, j), (i, k), (j, k))]
        if sorted(days)[1] != sorted(days)[2]:
            return (i, j, k)
    return None


class ShownTest(Case):
    def test_shown(self):
        table = ((0, 1), (1,))
        self.assertEqual(shown(plain(4), (0, 1, 2), table), (plain(3), (((0, 1),), ((0, 2),)), (0, 1)))
        self.assertEqual(shown_count(plain(4), (0, 1, 2), table), 1)
        self.assertEqual(shown(plain(4), (1, 3), ((2,),)), (plain(2), (((0, 1),),), (2,)))
        self.assertEqual(shown_count(plain(4), (1, 3), ((2,),)), 10)

    def test_never(self):
        late = Calendar((0, 0, 1), ((2,),))
        self.assertEqual(shown(TWO_LEFT, (0, 3, 4), ((2, None), (None,))), (late, (((0, 1),),), (2,)))
        self.assertEqual(shown(plain(4), (0, 2), ((None,),)), (Calendar((0, 0), ()), (), ()))
        self.assertEqual(shown_count(plain(4), (0, 2), ((None,),)), 0)

    def test_patterns_are_not_asked(self):
        # No day of plain(4) has two groups, or a group of three.
        table = ((0, 1, 1), (1, 1), (0,))
        self.assertEqual(shown(plain(4), (0, 1, 2, 3), table), (PAIRS, (((0, 1), (2, 3)), ((0, 2),)), (0, 1)))
        self.assertEqual(shown_count(plain(4), (0, 1, 2, 3), table), 0)
        self.assertEqual(shown(plain(4), (0, 1, 3), ((2, 2), (2,))), (star(3), (((0, 1, 2),),), (2,)))
        self.assertEqual(shown_count(plain(4), (0, 1, 3), ((2, 2), (2,))), 0)

    def test_tables_of_trees(self):
        for calendar in small_calendars(4, 2) + small_calendars(4, 3)[::7] + [LATE, TWO_LEFT, PAIRS, plain(5)]:
            for some in subsets(range(len(calendar.born)), 2):
                had = {}
                for tree in trees_of(calendar):
                    table = table_of(calendar, tree, some)
                    self.assertEqual(shown(calendar, some, table), cut(calendar, tree, some))
                    had[table] = had.get(table, 0) + 1
                for table in had:
                    self.assertEqual(shown_count(calendar, some, table), had[table])

    def test_all_tables(self):
        for calendar in small_calendars(3, 2)[::3] + small_calendars(4, 2)[::31] + [LATE, TWO_LEFT, PAIRS, plain(4)]:
            for some in subsets(range(len(calendar.born)), 2):
                if len(some) < 4:
                    had = [table_of(calendar, tree, some) for tree in trees_of(calendar)]
                    for table in tables_of(len(some), [None, -1] + list(range(len(calendar.days) + 1))):
                        self.assert_table(calendar, some, table, had)

    def test_tables_of_four(self):
        had = [table_of(plain(4), tree, (0, 1, 2, 3)) for tree in trees_of(plain(4))]
        for table in tables_of(4, (None, 0, 1, 2)):
            self.assert_table(plain(4), (0, 1, 2, 3), table, had)
            if table in had:
                self.assertEqual(shown_count(plain(4), (0, 1, 2, 3), table), 1)

    def assert_table(self, calendar, some, table, had):
        wrong = wrong_in(calendar, some, table)
        if wrong is not None:
            self.refused(BadTable, wrong, shown, calendar, some, table)
            self.refused(BadTable, wrong, shown_count, calendar, some, table)
            return
        small, tree, days = shown(calendar, some, table)
        self.assertEqual(made_calendar(small.born, small.days), small)
        self.assertIs(is_tree(small, tree), True)
        self.assertEqual(shown_count(calendar, some, table), had.count(table))
        self.assertEqual(cut_count(calendar, some, small, days), had.count(table))
        for i, j in combinations(range(len(some)), 2):
            d = met_on(small, tree, i, j)
            self.assertEqual(table[i][j - i - 1], None if d is None else days[d])

    def test_twelve_leaves(self):
        for calendar in (PLAIN_TWELVE, LATE_TWELVE, LATE_MANY, WIDE, MIXED):
            leaves = tuple(range(len(calendar.born)))
            for k in (0, size(calendar) // 3, size(calendar) - 1):
                tree = nth_tree(calendar, k)
                table = table_of(calendar, tree, leaves)
                self.assertEqual(shown(calendar, leaves, table), (calendar, tree, tuple(range(len(tree)))))
                self.assertEqual(shown_count(calendar, leaves, table), 1)
                some = leaves[1::2]
                table = table_of(calendar, tree, some)
                self.assertEqual(shown(calendar, some, table), cut(calendar, tree, some))
                self.assertGreater(shown_count(calendar, some, table), 0)
        never = tuple((None,) * (11 - i) for i in range(11))
        self.assertEqual(shown(PLAIN_TWELVE, tuple(range(12)), never)[1:], ((), ()))
        self.assertEqual(shown_count(PLAIN_TWELVE, tuple(range(12)), never), 0)

    def test_wrong(self):
        for function in (shown, shown_count):
            for some, i in WRONG_SETS:
                self.refused(BadSet, i, function, plain(4), some, ())
            self.refused(BadSet, 1, function, plain(4), (2,), ())
            self.refused(BadSet, 1, function, SINGLE, (0,), ((),))
            for table in ((), ((9,),), ((9,), (9,), (9,)), ((0, 1), (1,), ())):
                self.refused(BadSize, len(table), function, plain(4), (0, 1, 2), table)
            for table, what in ((((9,), (9,)), (0,)), (((9, 9), ()), (1,)), (((9, 9, 9), (9,)), (0,)),
                                (((9, 9), (9, 9)), (1,)), ((((), ())), (0,)), (((0, 3), (1,)), (0, 2)),
                                (((-1, 3), (1,)), (0, 1)), (((0, 0), (3,)), (1, 2)), (((0, 1), (10 ** 40,)), (1, 2)),
                                (((0, 1), (2,)), (0, 1, 2)), (((0, 0), (1,)), (0, 1, 2)), (((2, 1), (0,)), (0, 1, 2)),
                                (((0, 1), (None,)), (0, 1, 2)), (((None, 0), (0,)), (0, 1, 2))):
                self.refused(BadTable, what, function, plain(4), (0, 1, 2), table)
            # A pair is asked before the threes, and a day may not lie ahead of a birth.
            self.refused(BadTable, (2, 3), function, plain(4), (0, 1, 2, 3), ((0, 1, 2), (2, 2), (3,)))
            self.refused(BadTable, (0, 1, 3), function, plain(4), (0, 1, 2, 3), ((1, 1, 1), (1, 2), (2,)))
            self.refused(BadTable, (0, 1), function, LATE, (1, 4), ((1,),))
            self.refused(BadTable, (0, 1), function, LATE, (1, 2), ((0,),))
        self.assertEqual(shown_count(plain(4), (0, 1, 2, 3), table_of(plain(4), TREE, (0, 1, 2, 3))), 1)


if __name__ == "__main__":
    unittest.main()
