import unittest

from datedlines.calendarlooks import plain
from datedlines.done import done
from datedlines.errors import BadDeed, BadRow, BadSize
from datedlines.trees import is_tree
from support import (DEEP, LATE, LONG, MIXED, ODD, SINGLE, TWO_LEFT, Case, exchanged_sets, listed_trees, sets_at,
                     small_calendars)

CHAIN = (((0, 1),), ((0, 2),))
TREE = (((0, 1),), ((2, 3),), ((0, 2),))
LATE_TREE = (((0, 1),), ((2, 3),), ((0, 2, 4),))


def all_deeds(calendar, tree):
    """All deeds of a tree, from sets of leaves."""
    found = []
    for d in range(len(tree)):
        names = [min(lot) for lot in sets_at(calendar, tree, d)]
        found.extend([("change", d, a, b) for a in names for b in names if a < b])
    return found


class DoneTest(Case):
    def test_example(self):
        self.assertEqual(done(plain(3), CHAIN, ("change", 0, 1, 2)), (((0, 2),), ((0, 1),)))
        self.assertEqual(done(plain(3), CHAIN, ("change", 0, 0, 1)), CHAIN)
        self.assertEqual(done(plain(3), CHAIN, ("change", 1, 0, 2)), CHAIN)

    def test_within_the_lines_they_have_become_part_of(self):
        # The line 1 of day 0 goes on within the line 0, and the line 3 within the line 2.
        self.assertEqual(done(plain(4), TREE, ("change", 0, 1, 3)), (((0, 3),), ((1, 2),), ((0, 1),)))
        self.assertEqual(done(plain(4), TREE, ("change", 0, 0, 2)), (((1, 2),), ((0, 3),), ((0, 1),)))

    def test_rows_before_stay(self):
        self.assertEqual(done(LATE, LATE_TREE, ("change", 1, 0, 3)), (((0, 1),), ((0, 2),), ((0, 3, 4),)))
        self.assertEqual(done(LATE, LATE_TREE, ("change", 2, 2, 4)), LATE_TREE)

    def test_several_lines_left(self):
        tree = (((0, 1),), ((0, 2),), ((0, 3),))
        self.assertEqual(done(TWO_LEFT, tree, ("change", 1, 0, 3)), (((0, 1),), ((2, 3),), ((0, 2),)))

    def test_all_small_ones(self):
        for calendar in small_calendars(4, 2):
            for tree in listed_trees(calendar):
                for deed in all_deeds(calendar, tree):
                    other = done(calendar, tree, deed)
                    self.assertEqual(other, exchanged_sets(calendar, tree, *deed[1:]))
                    self.assertIs(is_tree(calendar, other), True)
                    self.assertEqual(done(calendar, other, deed), tree)

    def test_each_is_taken_back_by_itself(self):
        for calendar in (plain(5), LATE, TWO_LEFT, MIXED):
            for tree in listed_trees(calendar)[::7]:
                for deed in all_deeds(calendar, tree):
                    self.assertEqual(done(calendar, done(calendar, tree, deed), deed), tree)

    def test_what_is_no_deed(self):
        wrong = ODD + (DEEP, LONG, (), ("change",), ("change", 0, 0), ("change", 0, 0, 1, 2), (0, 0, 1, 2), "chan",
                       ("mark", 0, 0, 1), ("Change", 0, 0, 1), (("change",), 0, 0, 1), ("change", "0", 0, 1),
                       ("change", True, 0, 1), ("change", 0, False, 1), ("change", 0, 0, True), ("change", 0, 0, DEEP),
                       ("change", (0,), 0, 1), ("change", 0, (), 1))
        for deed in wrong:
            self.refused(BadDeed, 0, done, plain(4), TREE, deed)
            self.refused(BadDeed, 0, done, SINGLE, (), deed)

    def test_what_is_no_day(self):
        for d in (-1, 3, 10 ** 40):
            self.refused(BadDeed, 1, done, plain(4), TREE, ("change", d, 9, 9))
        self.refused(BadDeed, 1, done, SINGLE, (), ("change", 0, 0, 0))

    def test_what_are_no_names(self):
        for a, b in ((1, 0), (0, 0), (-1, 0), (0, 4), (4, 5), (0, 10 ** 40), (-10 ** 40, 3)):
            self.refused(BadDeed, 2, done, plain(4), TREE, ("change", 0, a, b))
        self.refused(BadDeed, 2, done, plain(4), TREE, ("change", 1, 0, 1))
        self.refused(BadDeed, 2, done, plain(4), TREE, ("change", 2, 1, 2))
        self.refused(BadDeed, 2, done, LATE, LATE_TREE, ("change", 0, 0, 2))
        self.refused(BadDeed, 2, done, LATE, LATE_TREE, ("change", 1, 2, 4))

    def test_the_tree_is_asked_first(self):
        self.refused(BadSize, 2, done, plain(4), TREE[:2], "")
        self.refused(BadRow, 1, done, plain(4), (((0, 1),), ((0, 1),), ((0, 2),)), "")


if __name__ == "__main__":
    unittest.main()
