import re
import unittest

from datedlines.calendarlooks import plain, star
from datedlines.calendars import Calendar
from datedlines.errors import BadText
from datedlines.nthtree import nth_tree
from datedlines.numbers import size
from datedlines.treetext import tree_of, tree_text
from support import (LATE, LATE_MANY, LATE_TWELVE, MIXED, PAIRS, PLAIN_TWELVE, SINGLE, TREE, TWO_LEFT, WIDE, Case,
                     changed_texts, sets_at, small_calendars, trees_of)


def bad_row(calendar, text):
    """The index that BadText tells, None if the text is one of a tree of the calendar."""
    rows = text.split("\n") if text else []
    tree = ()
    for d, pattern in enumerate(calendar.days):
        number = "([0-9]|1[0-2])"
        if d == len(rows) or not re.fullmatch(f"meet( {number}(-{number})*)+", rows[d]):
            return d
        row = tuple(tuple(map(int, word.split("-"))) for word in rows[d].split(" ")[1:])
        names = [min(lot) for lot in sets_at(calendar, tree, d)]
        taken = [name for group in row for name in group]
        if not set(taken) <= set(names) or len(set(taken)) < len(taken) or list(row) != sorted(row):
            return d
        if any(list(group) != sorted(group) for group in row) or sorted(map(len, row))[::-1] != list(pattern):
            return d
        tree += (row,)
    return len(calendar.days) if len(rows) > len(calendar.days) else None


class TreeTextTest(Case):
    def test_texts(self):
        for calendar, tree, text in ((plain(4), TREE, "meet 0-1\nmeet 2-3\nmeet 0-2"), (SINGLE, (), ""),
                                     (Calendar((0, 0), ()), (), ""), (star(3), (((0, 1, 2),),), "meet 0-1-2"),
                                     (PAIRS, (((0, 3), (1, 2)), ((0, 1),)), "meet 0-3 1-2\nmeet 0-1")):
            self.assertEqual(tree_text(calendar, tree), text)
            self.assertEqual(tree_of(calendar, text), tree)
        self.assertEqual(tree_text(star(12), (tuple([tuple(range(12))]),)), "meet 0-1-2-3-4-5-6-7-8-9-10-11")

    def test_there_and_back(self):
        for calendar in small_calendars(4, 2) + [LATE, TWO_LEFT, PAIRS, plain(5)]:
            texts = [tree_text(calendar, tree) for tree in trees_of(calendar)]
            self.assertEqual(len(set(texts)), len(texts))
            for tree, text in zip(trees_of(calendar), texts):
                self.assertEqual(tree_of(calendar, text), tree)
        for calendar in (PLAIN_TWELVE, LATE_TWELVE, LATE_MANY, WIDE, MIXED):
            tree = nth_tree(calendar, size(calendar) // 3)
            self.assertEqual(tree_of(calendar, tree_text(calendar, tree)), tree)

    def test_changed_texts(self):
        for calendar in (plain(2), plain(4), LATE, PAIRS, MIXED, TWO_LEFT, star(12)):
            for k in (0, size(calendar) // 2):
                for text in changed_texts(tree_text(calendar, nth_tree(calendar, k))):
                    self.assert_strict(calendar, text)

    def test_texts_of_other_calendars(self):
        calendars = small_calendars(3, 2)[::2] + [plain(4), LATE, PAIRS]
        for one in calendars:
            text = tree_text(one, trees_of(one)[-1])
            for calendar in calendars:
                self.assert_strict(calendar, text)

    def assert_strict(self, calendar, text):
        i = bad_row(calendar, text)
        if i is None:
            self.assertEqual(tree_text(calendar, tree_of(calendar, text)), text)
        else:
            self.refused(BadText, i, tree_of, calendar, text)

    def test_wrong_texts(self):
        for text, i in (("", 0), ("meet 0-1", 1), ("meet 0-1\nmeet 2-3", 2), ("meet 0-1\n", 1), ("\n", 0),
                        ("meet 0-1\nmeet 2-3\nmeet 0-2\n", 3), ("meet 0-1\nmeet 2-3\nmeet 0-2\nmeet 0-2", 3),
                        ("meet 0-1\nmeet 1-2\nmeet 0-2", 1), ("meet 0-1\nmeet 2-3\nmeet 0-3", 2), ("meet 1-0\n\n", 0),
                        ("meet", 0), ("meet ", 0), ("meet 0", 0), ("meet 0-1 2-3", 0), ("meet 0-1-2", 0), ("0-1", 0),
                        ("meet 00-1", 0), ("meet 0-01", 0), ("meet 0--1", 0), ("meet -1", 0), ("meet 0-1-", 0),
                        ("meet  0-1", 0), ("meet 0-1 ", 0), (" meet 0-1", 0), ("Meet 0-1", 0), ("meet 0-12", 0),
                        ("meet 0-13", 0), ("meet 0 1", 0), ("meet 0,1", 0), ("meet 0-4", 0), ("meet 0-\u0661", 0)):
            self.refused(BadText, i, tree_of, plain(4), text)
        for text in (" ", "\n", "meet", "meet 0-1", "x" * 10 ** 5, "\n" * 10 ** 5):
            self.refused(BadText, 0, tree_of, SINGLE, text)

    def test_trees_wrong(self):
        self.refuses_trees(tree_text)


if __name__ == "__main__":
    unittest.main()
