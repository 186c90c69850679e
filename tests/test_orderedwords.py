import unittest
from itertools import product

from datedlines.calendarlooks import is_level, plain, star
from datedlines.calendars import Calendar
from datedlines.depthcalendars import depth_calendar, depths_of
from datedlines.depths import depth_rows
from datedlines.errors import BadRow, BadSize, BadWord, NotLevel, NotWhole
from datedlines.ordered import nth_ordered, ordered_size, plain_of
from datedlines.orderedwords import ordered_of_words, words_of
from datedlines.shapes import shape_of
from datedlines.words import words
from datedlines.wordtrees import wood_of_words
from support import (LATE, LATE_MANY, MIXED, PAIRS, PLAIN_TWELVE, SINGLE, TREE, TWO_LEFT, Case, sets_at,
                     small_calendars)


def word_from_sets(calendar, tree, ordered, x):
    """The word of a leaf in an ordered tree, from the sets of leaves of its plain tree."""
    word = [i for i, lot in enumerate(sets_at(calendar, tree, len(tree))) if x in lot]
    for d in range(len(tree) - 1, calendar.born[x] - 1, -1):
        name = [min(lot) for lot in sets_at(calendar, tree, d) if x in lot][0]
        word.extend([group.index(name) for group in ordered[d] if name in group])
    return tuple(word)


def level_calendars():
    """Level calendars of at most five leaves."""
    found = [calendar for calendar in small_calendars(5, 3) if is_level(calendar)]
    return found + [depth_calendar((2, 1, 3, 3), 2), depth_calendar((1, 2, 1, 2, 2), 3), star(4)]


class WordsOfTest(Case):
    def test_words_of(self):
        self.assertEqual(words_of(plain(2), (((0, 1),),)), ((0, 0), (0, 1)))
        self.assertEqual(words_of(plain(2), (((1, 0),),)), ((0, 1), (0, 0)))
        self.assertEqual(words_of(SINGLE, ()), ((0,),))
        self.assertEqual(words_of(plain(4), TREE), words(plain(4), TREE))
        self.assertEqual(words_of(TWO_LEFT, (((1, 0),), ((2, 3),), ((2, 0),))),
                         ((0, 1, 1), (0, 1, 0), (0, 0, 0), (0, 0, 1), (1,)))

    def test_against_sets(self):
        for calendar in small_calendars(4, 2)[::3] + [LATE, PAIRS, TWO_LEFT, MIXED, PLAIN_TWELVE, LATE_MANY]:
            many = ordered_size(calendar)
            for k in range(0, many, many // 40 + 1):
                ordered = nth_ordered(calendar, k)
                tree = plain_of(calendar, ordered)
                told = [word_from_sets(calendar, tree, ordered, x) for x in range(len(calendar.born))]
                self.assertEqual(words_of(calendar, ordered), tuple(told))
                self.assertEqual(tuple(len(word) - 1 for word in told), depths_of(calendar, tree))
                self.assertEqual(wood_of_words(tuple(told)), shape_of(calendar, tree))

    def test_ordered_trees_wrong(self):
        self.refused(BadSize, 2, words_of, plain(4), TREE[:2])
        for odd in ("", 0, True, ((0, 0),), (("0", 1),), ((4, 0),), ()):
            self.refused(BadRow, 0, words_of, plain(4), (odd,) + TREE[1:])
            self.refused(BadRow, 1, words_of, plain(4), (((1, 0),), odd, odd))


class OrderedOfWordsTest(Case):
    def test_ordered_of_words(self):
        self.assertEqual(ordered_of_words(plain(2), ((0, 0), (0, 1))), (((0, 1),),))
        self.assertEqual(ordered_of_words(plain(2), ((0, 1), (0, 0))), (((1, 0),),))
        self.assertEqual(ordered_of_words(SINGLE, ((0,),)), ())
        calendar = depth_calendar((2, 2, 2, 2), 2)
        rows = ((0, 1, 1), (0, 0, 1), (0, 0, 0), (0, 1, 0))
        self.assertEqual(ordered_of_words(calendar, rows), (((3, 0), (2, 1)), ((1, 0),)))

    def test_back_on_level_calendars(self):
        for calendar in level_calendars():
            for k in range(ordered_size(calendar)):
                ordered = nth_ordered(calendar, k)
                self.assertEqual(ordered_of_words(calendar, words_of(calendar, ordered)), ordered)

    def test_all_words_there_are(self):
        # Of all rows of words of the right lengths just those are taken that are the words of an ordered tree.
        for calendar in (depth_calendar((2, 2, 2, 2), 2), depth_calendar((1, 2, 2), 2), star(3), plain(2), SINGLE):
            told = {words_of(calendar, nth_ordered(calendar, k)) for k in range(ordered_size(calendar))}
            self.assertEqual(len(told), ordered_size(calendar))
            lengths = [len(calendar.days) - moment for moment in calendar.born]
            parts = range(calendar.days[0][0]) if calendar.days else ()
            for rows in product(*[[(e,) + word for e in (0, 1) for word in product(parts, repeat=length)]
                                  for length in lengths]):
                if rows in told:
                    self.assertEqual(words_of(calendar, ordered_of_words(calendar, rows)), rows)
                else:
                    with self.assertRaises((BadWord, NotWhole)):
                        ordered_of_words(calendar, rows)

    def test_twelve_leaves(self):
        for r in range(2, 13):
            for depths in depth_rows(12, r) + depth_rows(11, r):
                calendar = depth_calendar(depths[::-1], r)
                many = ordered_size(calendar)
                for k in (0, many // 3, many - 1):
                    ordered = nth_ordered(calendar, k)
                    self.assertEqual(ordered_of_words(calendar, words_of(calendar, ordered)), ordered)

    def test_not_level(self):
        for calendar in (plain(3), LATE, TWO_LEFT, MIXED, Calendar((0, 0), ()), Calendar((0,) * 4, ((2, 2),))):
            for rows in ("", (), ((0,),), ((0, 0), (0, 1))):
                self.refused(NotLevel, 0, ordered_of_words, calendar, rows)

    def test_errors_of_words_first(self):
        calendar = depth_calendar((2, 2, 2, 2), 2)
        for rows in ((), "", 0, True):
            self.refused(BadSize, 0, ordered_of_words, calendar, rows)
        self.refused(BadSize, 13, ordered_of_words, calendar, ((0,),) * 13)
        for thing in ("", (), (True,), ("0",), ((0,),), (-1,), 0, False):
            self.refused(BadWord, 1, ordered_of_words, calendar, ((0,), thing))
        self.refused(BadWord, 0, ordered_of_words, calendar, ((0,), (0, 1)))
        self.refused(NotWhole, (), ordered_of_words, calendar, ((1,),))
        self.refused(NotWhole, (0,), ordered_of_words, calendar, ((0, 0),))

    def test_errors_of_the_calendar(self):
        calendar = depth_calendar((2, 2, 2, 2), 2)
        self.refused(BadSize, 1, ordered_of_words, calendar, ((0,),))
        self.refused(BadSize, 5, ordered_of_words, calendar, tuple((x,) for x in range(5)))
        self.refused(NotLevel, (0,), ordered_of_words, calendar, tuple((x,) for x in range(4)))
        self.refused(NotLevel, (2,), ordered_of_words, calendar, ((0, 0, 0), (0, 0, 1), (0, 1), (0, 2)))
        self.refused(NotLevel, (0,), ordered_of_words, depth_calendar((1, 2, 2), 2), ((0, 0, 0), (0, 0, 1), (0, 1)))
        three = Calendar((0,) * 9, ((3, 3, 3), (3,)))
        rows = tuple((0, k, i) for k in range(4) for i in range(2))
        self.refused(BadSize, 8, ordered_of_words, three, rows)
        self.refused(NotWhole, (0,), ordered_of_words, three, rows + ((0, 3, 2),))
        rows = tuple((0, k, i) for k, many in ((0, 3), (1, 4), (2, 2)) for i in range(many))
        self.refused(NotWhole, (0, 1), ordered_of_words, three, rows)
        rows = tuple((k, 0, i) for k in (0, 1) for i in range(2)) + tuple((k, 1, i) for k in (0, 1) for i in range(2))
        self.refused(BadSize, 8, ordered_of_words, calendar, rows)
        self.refused(NotWhole, (0,), ordered_of_words, star(4), ((0, 0), (0, 1), (1, 0), (1, 1)))
        self.refused(NotWhole, (0,), ordered_of_words, star(5), ((0, 0), (0, 1), (0, 2), (1, 0), (1, 1)))


if __name__ == "__main__":
    unittest.main()
