import unittest

from datedlines.calendarlooks import plain
from datedlines.errors import BadFamily, BadRow, BadSize, TooMany
from datedlines.families import together
from support import (LATE, ODD, PAIRS, SINGLE, TWO_LEFT, WRONG_FAMILIES, Case, behind_all, families_of, listed_trees,
                     small_calendars)

TREE = (((0, 1),), ((2, 3),), ((0, 2),))


class TogetherTest(Case):
    def test_together(self):
        self.assertIs(together(plain(4), TREE, ((0, 1),)), True)
        self.assertIs(together(plain(4), TREE, ((2, 3), (0, 1, 2, 3), (0, 1))), True)
        self.assertIs(together(plain(4), TREE, ((0, 1), (0, 1, 2))), False)
        self.assertIs(together(plain(4), TREE, ((0, 2),)), False)

    def test_against_all_trees(self):
        for calendar in small_calendars(4, 3) + small_calendars(5, 2)[::40] + [LATE, TWO_LEFT, PAIRS]:
            families = families_of(len(calendar.born))
            for tree, behind in zip(listed_trees(calendar), behind_all(calendar)):
                lines = {lot for lots in behind for lot in lots}
                for family in families:
                    told = all(frozenset(some) in lines for some in family)
                    self.assertIs(together(calendar, tree, family), told)

    def test_families_wrong(self):
        for family, error, what in WRONG_FAMILIES:
            self.refused(error, what, together, plain(4), TREE, family)
        self.refused(TooMany, 0, together, SINGLE, (), ())
        self.refused(BadFamily, 0, together, SINGLE, (), ((0, 1),))

    def test_trees_wrong_before_families(self):
        self.refused(BadSize, 2, together, plain(4), TREE[:2], ())
        for odd in ODD:
            self.refused(BadRow, 1, together, plain(4), (TREE[0], odd, TREE[2]), ())


if __name__ == "__main__":
    unittest.main()
