import unittest

from datedlines.calendarlooks import plain
from datedlines.deeds import changing, offers
from datedlines.errors import BadRow, BadSize
from support import (LATE, LATE_TWELVE, PLAIN_TWELVE, SINGLE, TWO_LEFT, Case, exchanged_sets, listed_trees, sets_at,
                     small_calendars)

TREE = (((0, 1),), ((2, 3),), ((0, 2),))
CHAIN_TWELVE = tuple(((0, x),) for x in range(1, 12))


class DeedsTest(Case):
    def test_offers(self):
        self.assertEqual(offers(SINGLE, ()), ())
        first = tuple(("change", 0, a, b) for a, b in ((0, 1), (0, 2), (1, 2)))
        self.assertEqual(offers(plain(3), (((1, 2),), ((0, 1),))), first + (("change", 1, 0, 1),))
        late = offers(LATE, (((0, 1),), ((2, 3),), ((0, 2, 4),)))
        self.assertEqual([deed[1:] for deed in late],
                         [(0, 0, 1), (1, 0, 2), (1, 0, 3), (1, 2, 3), (2, 0, 2), (2, 0, 4), (2, 2, 4)])

    def test_changing(self):
        self.assertEqual(changing(SINGLE, ()), ())
        self.assertEqual(changing(plain(3), (((0, 1),), ((0, 2),))), (("change", 0, 0, 2), ("change", 0, 1, 2)))
        self.assertEqual(changing(TWO_LEFT, (((0, 1),), ((0, 2),), ((0, 3),))),
                         tuple(("change", d, a, b) for d, a, b in
                               ((0, 0, 3), (0, 1, 3), (1, 0, 3), (1, 2, 3))))

    def test_all_small_ones(self):
        for calendar in small_calendars(4, 2):
            for tree in listed_trees(calendar):
                self.assert_deeds(calendar, tree)

    def assert_deeds(self, calendar, tree):
        expected = []
        for d in range(len(tree)):
            names = [min(lot) for lot in sets_at(calendar, tree, d)]
            expected.extend([("change", d, a, b) for a in names for b in names if a < b])
        self.assertEqual(offers(calendar, tree), tuple(sorted(expected)))
        altering = [deed for deed in expected if exchanged_sets(calendar, tree, *deed[1:]) != tree]
        self.assertEqual(changing(calendar, tree), tuple(sorted(altering)))

    def test_twelve_leaves(self):
        self.assertEqual(len(offers(PLAIN_TWELVE, CHAIN_TWELVE)), sum(k * (k - 1) // 2 for k in range(2, 13)))
        self.assertEqual(offers(LATE_TWELVE, CHAIN_TWELVE), tuple(("change", d, 0, d + 1) for d in range(11)))
        self.assertEqual(changing(LATE_TWELVE, CHAIN_TWELVE), ())

    def test_the_tree_is_asked(self):
        for function in (offers, changing):
            self.refused(BadSize, 4, function, plain(4), TREE + (((0, 1),),))
            self.refused(BadRow, 0, function, plain(4), ("01",) + TREE[1:])


if __name__ == "__main__":
    unittest.main()
