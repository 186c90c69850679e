import unittest
from itertools import product

from datedlines.calendarlooks import plain
from datedlines.errors import BadSize, BadWord, NotWhole
from datedlines.nthtree import nth_tree
from datedlines.numbers import size
from datedlines.shapes import made_wood, shape_of
from datedlines.words import words
from datedlines.wordtrees import wood_of_words
from support import (DEEP, LATE, LATE_MANY, LONG, MIXED, ODD, PAIRS, PLAIN_TWELVE, SINGLE, TWO_LEFT, WIDE, Case,
                     small_calendars, trees_of)


def told_wrong(rows):
    """The error of words of small numbers, from all beginnings at once; None if they are words of a wood."""
    for i, word in enumerate(rows):
        longer = [other for other in rows if len(other) > len(word) and other[:len(word)] == word]
        if not word or longer or word in rows[:i]:
            return BadWord, i
    joints = {word[:many] for word in rows for many in range(len(word))}
    for joint in sorted(joints):
        behind = {word[len(joint)] for word in rows if word[:len(joint)] == joint}
        if behind != set(range(len(behind))) or joint and len(behind) < 2:
            return NotWhole, joint
    return None


def told_wood(rows, begun=()):
    """The shapes of the leaves whose words begin so."""
    found = []
    for k in sorted({word[len(begun)] for word in rows if len(word) > len(begun) and word[:len(begun)] == begun}):
        step = begun + (k,)
        found.append(rows.index(step) if step in rows else told_wood(rows, step))
    return tuple(sorted(found, key=first_leaf))


def first_leaf(shape):
    return min(map(first_leaf, shape)) if isinstance(shape, tuple) else shape


class WoodOfWordsTest(Case):
    def test_wood_of_words(self):
        self.assertEqual(wood_of_words(((0,),)), (0,))
        self.assertEqual(wood_of_words(((0, 0, 0), (0, 0, 1), (0, 1))), (((0, 1), 2),))
        self.assertEqual(wood_of_words(((1,), (0,))), (0, 1))
        self.assertEqual(wood_of_words(((1, 1), (0,), (1, 0))), ((0, 2), 1))

    def test_places_are_not_kept(self):
        self.assertEqual(wood_of_words(((0, 1), (0, 0))), ((0, 1),))
        self.assertEqual(words(plain(2), (((0, 1),),)), ((0, 0), (0, 1)))
        self.assertEqual(wood_of_words(((0, 1, 1), (0, 0), (0, 1, 0))), (((0, 2), 1),))

    def test_words_of_trees(self):
        for calendar in small_calendars(4, 3)[::2] + [LATE, TWO_LEFT, PAIRS, SINGLE, plain(5)]:
            for tree in trees_of(calendar):
                self.assertEqual(wood_of_words(words(calendar, tree)), shape_of(calendar, tree))

    def test_twelve_leaves(self):
        for calendar in (PLAIN_TWELVE, WIDE, LATE_MANY, MIXED):
            for k in (0, size(calendar) // 5, size(calendar) - 1):
                tree = nth_tree(calendar, k)
                self.assertEqual(wood_of_words(words(calendar, tree)), shape_of(calendar, tree))
        chain = tuple((0,) * (12 - x) + (1,) * (x > 0) for x in range(12))
        self.assertEqual(made_wood(12, wood_of_words(chain))[0][1], 11)

    def test_all_small_rows(self):
        small = [word for many in range(4) for word in product(range(2), repeat=many)] + [(2,), (0, 2), (1, 2), (3, 0)]
        for many in (1, 2, 3):
            for rows in product(small, repeat=many):
                self.assert_rows(rows)
        for rows in product([(0,), (1,), (0, 0), (0, 1), (0, 2), (0, 1, 0), (0, 1, 1), (1, 0), (1, 1)], repeat=4):
            self.assert_rows(rows)

    def assert_rows(self, rows):
        wrong = told_wrong(rows)
        if wrong is None:
            self.assertEqual(wood_of_words(rows), told_wood(rows))
            made_wood(len(rows), wood_of_words(rows))
        else:
            self.refused(*wrong, wood_of_words, rows)

    def test_examples_of_errors(self):
        self.refused(BadWord, 0, wood_of_words, ((0,), (0, 1)))
        self.refused(NotWhole, (), wood_of_words, ((1,), (2,)))
        self.refused(NotWhole, (0,), wood_of_words, ((0, 0), (0, 2)))
        self.refused(NotWhole, (0,), wood_of_words, ((0, 0),))

    def test_wrong_sizes(self):
        for thing in (True, False, "", "0", 0, -1, 10 ** 40):
            self.refused(BadSize, 0, wood_of_words, thing)
        self.refused(BadSize, 0, wood_of_words, ())
        self.refused(BadSize, 13, wood_of_words, ("",) * 13)
        self.refused(BadSize, 13, wood_of_words, tuple((x,) for x in range(13)))
        self.refused(BadSize, 10 ** 5, wood_of_words, LONG)
        self.assertEqual(wood_of_words(tuple((x,) for x in range(12))), tuple(range(12)))

    def test_wrong_words(self):
        for thing in (True, False, "", "0", 0, 1, (), ("",), ("0",), (True,), (False,), (0, True), (0, "1"), (-1,),
                      (0, -10 ** 40), ((0,),), ((0,), 1), (0, (1,)), (0, ()), DEEP, ("a", 2)):
            self.refused(BadWord, 0, wood_of_words, (thing,))
            self.refused(BadWord, 0, wood_of_words, (thing, thing, (9,)))
            self.refused(BadWord, 1, wood_of_words, ((1,), thing, (1,)))
            self.refused(BadWord, 2, wood_of_words, ((0, 0), (0, 1), thing))
        for rows, i in ((((0,), (0,)), 1), (((0, 1), (0,)), 1), (((1,), (0,), (2, 1), (0, "x")), 1),
                        (((0, 0), (1,), (0, 0), ()), 2), (((0,), ("0",), (0, 0)), 0),
                        # What begins with the first word need not be a word itself.
                        (((0, 0), (0, 0, "")), 0), (((0,), (0, DEEP)), 0), (((0, 0, ""), (0, 0)), 0)):
            self.refused(BadWord, i, wood_of_words, rows)
        for odd in ODD:
            self.refused(BadWord, 0, wood_of_words, (odd if odd != 0 else "", (5,), (5,)))

    def test_order_of_errors(self):
        self.refused(BadWord, 2, wood_of_words, ((5,), (7, 7), (7, 7)))
        self.refused(NotWhole, (), wood_of_words, ((0, 1), (2, 0)))
        self.refused(NotWhole, (0,), wood_of_words, ((1, 0, 0), (0, 1), (1, 1)))
        self.refused(NotWhole, (0, 0, 0), wood_of_words, ((0, 0, 1), (0, 0, 0, 1), (0, 1, 3)))
        self.refused(NotWhole, (0, 1), wood_of_words, ((1, 3), (0, 0), (0, 1, 3), (1, 0)))
        self.refused(NotWhole, (0, 0), wood_of_words, ((1, 1), (0, 0, 0), (0, 1, 5), (0, 1, 0), (1, 0)))

    def test_long_words(self):
        self.refused(NotWhole, (0,), wood_of_words, ((0,) * 50000,))
        self.refused(NotWhole, (), wood_of_words, ((10 ** 40,) * 50000, (0,)))
        self.refused(NotWhole, (1,), wood_of_words, ((1,) * 50000, (0,)))
        self.refused(NotWhole, (0, 1), wood_of_words, ((0,) + (1,) * 40000, (0, 0)))
        self.refused(BadWord, 1, wood_of_words, ((0,) * 40000, (0,) * 20000))


if __name__ == "__main__":
    unittest.main()
