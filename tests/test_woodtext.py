import unittest

from datedlines.errors import BadShape, BadSize, BadText
from datedlines.nthtree import nth_tree
from datedlines.numbers import size
from datedlines.shapes import shape_of
from datedlines.woodtext import wood_of, wood_text
from support import (LATE_MANY, NO_WOODS, ODD, PLAIN_TWELVE, WIDE, Case, all_woods, changed_texts)


def told_text(wood):
    """The text of a wood, from the signs that Python writes it with."""
    return " ".join(repr(shape).replace(" ", "") for shape in wood)


def chain(leaves):
    """The shape of so many leaves that is nested as deep as can be."""
    shape = 0
    for x in range(1, leaves):
        shape = (shape, x)
    return shape


class WoodTextTest(Case):
    def test_texts(self):
        for n, wood, text in ((4, (((0, 2), 1), 3), "((0,2),1) 3"), (1, (0,), "0"), (3, (0, 1, 2), "0 1 2"),
                              (3, ((0, 1, 2),), "(0,1,2)"), (12, tuple(range(12)), "0 1 2 3 4 5 6 7 8 9 10 11"),
                              (12, (tuple(range(12)),), "(0,1,2,3,4,5,6,7,8,9,10,11)")):
            self.assertEqual(wood_text(n, wood), text)
            self.assertEqual(wood_of(n, text), wood)

    def test_there_and_back(self):
        for n in range(1, 7):
            for wood in all_woods(n):
                text = wood_text(n, wood)
                self.assertEqual(text, told_text(wood))
                self.assertEqual(wood_of(n, text), wood)

    def test_twelve_leaves(self):
        for calendar in (PLAIN_TWELVE, LATE_MANY, WIDE):
            for k in (0, size(calendar) // 3, size(calendar) - 1):
                wood = shape_of(calendar, nth_tree(calendar, k))
                self.assertEqual(wood_text(12, wood), told_text(wood))
                self.assertEqual(wood_of(12, wood_text(12, wood)), wood)

    def test_nested_deep(self):
        deepest = (chain(12),)
        text = "(" * 11 + "0" + "".join(f",{x})" for x in range(1, 12))
        self.assertEqual(wood_text(12, deepest), text)
        self.assertEqual(wood_of(12, text), deepest)
        self.refused(BadText, 0, wood_of, 12, "(" * 12 + "0" + "".join(f",{x})" for x in range(1, 13)))
        self.refused(BadText, 0, wood_of, 12, "(" + text + ")")
        self.refused(BadText, 0, wood_of, 12, "(" * 12 + "0" + "".join(f",{x})" for x in range(1, 12)) + ",11)")
        self.refused(BadText, 0, wood_of, 12, "(" * 10 ** 5)
        self.refused(BadText, 0, wood_of, 1, "(" * 10 ** 5 + "0" + ")" * 10 ** 5)

    def test_changed_texts(self):
        for n in range(1, 6):
            woods = all_woods(n)
            texts = {told_text(wood): wood for wood in woods}
            for wood in woods[::7] + woods[-3:]:
                for text in changed_texts(told_text(wood)):
                    if text in texts:
                        self.assertEqual(wood_of(n, text), texts[text])
                    else:
                        self.refused(BadText, 0, wood_of, n, text)

    def test_wrong_texts(self):
        for text in ("", " ", "1", "00", "0 ", " 0", "0\n", "\n0", "(0)", "()", "(0", "0)", "0,", ",0", "(0,)", "x",
                     "-0", "+0", "12", "0 1", "0,1", "(0,1)", "\u0660", "0\r", "0;", "((0))", "0" * 10 ** 5,
                     "0 " * 10 ** 5):
            self.refused(BadText, 0, wood_of, 1, text)
        for text in ("0 2", "1 0", "0 1 2", "0  1", "0 1 ", "(0, 1)", "(1,0)", "(0 1)", "(0,1", "0,1)", "(0,,1)",
                     "(0,1,)", "(0,1))", "((0,1))", "((0,1)", "[0,1]", "(0;1)", "(0,01)", "(0,1)\n", "0\n1", "0 0",
                     "(0,1)(0,1)", "(0)1", "(0)(1)", "0(1)", "(0 ,1)", "(,0,1)", "0 (1)", "01"):
            self.refused(BadText, 0, wood_of, 2, text)
        self.refused(BadText, 0, wood_of, 12, ",".join(map(str, range(12))))
        self.refused(BadText, 0, wood_of, 12, " ".join(map(str, range(13))))

    def test_wrong_sizes(self):
        for n in (0, 13, -1, 10 ** 40):
            self.refused(BadSize, n, wood_of, n, "x")
            self.refused(BadSize, n, wood_text, n, "x")

    def test_no_woods(self):
        for thing in NO_WOODS + ODD + ((0, 1), ((0, 1, 2, 3), 4)):
            self.refused(BadShape, 0, wood_text, 4, thing)


if __name__ == "__main__":
    unittest.main()
