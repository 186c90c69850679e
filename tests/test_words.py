import unittest

from datedlines.calendarlooks import plain, star
from datedlines.calendars import Calendar
from datedlines.depthcalendars import depths_of
from datedlines.nthtree import nth_tree
from datedlines.numbers import size
from datedlines.words import words
from support import (LATE, LATE_MANY, MIXED, PAIRS, PLAIN_TWELVE, SINGLE, TREE, TWO_LEFT, Case, sets_at,
                     small_calendars, trees_of)


def word_from_sets(calendar, tree, x):
    """The word of a leaf, from the sets of leaves that stand on each day."""
    at_end = sets_at(calendar, tree, len(tree))
    word = [i for i, lot in enumerate(at_end) if x in lot]
    for d in range(len(tree) - 1, calendar.born[x] - 1, -1):
        name = [min(lot) for lot in sets_at(calendar, tree, d) if x in lot][0]
        word.extend([group.index(name) for group in tree[d] if name in group])
    return tuple(word)


class WordsTest(Case):
    def test_words(self):
        self.assertEqual(words(plain(3), (((0, 1),), ((0, 2),))), ((0, 0, 0), (0, 0, 1), (0, 1)))
        self.assertEqual(words(plain(4), TREE), ((0, 0, 0), (0, 0, 1), (0, 1, 0), (0, 1, 1)))
        self.assertEqual(words(star(4), (((0, 1, 2, 3),),)), ((0, 0), (0, 1), (0, 2), (0, 3)))

    def test_edges(self):
        self.assertEqual(words(SINGLE, ()), ((0,),))
        self.assertEqual(words(Calendar((0, 0, 0), ()), ()), ((0,), (1,), (2,)))
        # The leaf 0 is born behind all days and meets nobody, and yet it is the first line at the end.
        self.assertEqual(words(Calendar((1, 0, 0), ((2,),)), (((1, 2),),)), ((0,), (1, 0), (1, 1)))
        self.assertEqual(words(TWO_LEFT, (((0, 1),), ((2, 3),), ((0, 2),)))[4], (1,))

    def test_against_sets(self):
        calendars = small_calendars(4, 2) + small_calendars(4, 3)[::7] + [LATE, TWO_LEFT, PAIRS, plain(5)]
        for calendar in calendars:
            for tree in trees_of(calendar):
                told = tuple(word_from_sets(calendar, tree, x) for x in range(len(calendar.born)))
                self.assertEqual(words(calendar, tree), told)

    def test_groups_of_several_sizes(self):
        for calendar in (MIXED, LATE_MANY, PLAIN_TWELVE):
            for k in (0, size(calendar) // 7, size(calendar) - 1):
                tree = nth_tree(calendar, k)
                found = words(calendar, tree)
                told = tuple(word_from_sets(calendar, tree, x) for x in range(len(calendar.born)))
                self.assertEqual(found, told)
                self.assertEqual(tuple(len(word) - 1 for word in found), depths_of(calendar, tree))

    def test_trees_wrong(self):
        self.refuses_trees(words)


if __name__ == "__main__":
    unittest.main()
