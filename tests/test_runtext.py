import re
import unittest
from itertools import product

from datedlines.calendarlooks import plain
from datedlines.deeds import offers
from datedlines.errors import BadDeed, BadText, TooMany
from datedlines.nthtree import nth_tree
from datedlines.numbers import size
from datedlines.runs import run_between
from datedlines.runtext import run_of, run_text
from support import DEEP, LATE_MANY, LONG, ODD, PLAIN_TWELVE, TREE, WIDE, Case, changed_texts

DEED = ("change", 0, 1, 2)


def bad_row(text):
    """The index that BadText tells, None if the text is one of a run."""
    for i, row in enumerate(text.split("\n") if text else []):
        if not re.fullmatch("change( ([0-9]|1[0-2])){3}", row):
            return i
    return None


class RunTextTest(Case):
    def test_texts(self):
        for run, text in (((), ""), ((DEED,), "change 0 1 2"), ((DEED, DEED), "change 0 1 2\nchange 0 1 2"),
                          ((("change", 12, 12, 12), ("change", 10, 5, 0)), "change 12 12 12\nchange 10 5 0")):
            self.assertEqual(run_text(run), text)
            self.assertEqual(run_of(text), run)

    def test_there_and_back(self):
        for deed in product(range(13), repeat=3):
            run = (("change",) + deed, DEED)
            self.assertEqual(run_of(run_text(run)), run)
        run = offers(plain(4), TREE)
        self.assertEqual(run_of(run_text(run)), run)
        for calendar in (PLAIN_TWELVE, LATE_MANY, WIDE):
            run = run_between(calendar, nth_tree(calendar, 5), nth_tree(calendar, size(calendar) - 1))
            self.assertEqual(run_of(run_text(run)), run)

    def test_how_many(self):
        text = "\n".join(["change 0 1 2"] * 1000)
        self.assertEqual(run_text((DEED,) * 1000), text)
        self.assertEqual(run_of(text), (DEED,) * 1000)
        self.refused(TooMany, 1001, run_text, (DEED,) * 1001)
        self.refused(TooMany, 1001, run_of, text + "\nchange 0 1 2")
        self.refused(TooMany, 1001, run_of, text + "\n")
        self.refused(TooMany, 1001, run_of, "\n" * 1000)
        self.refused(TooMany, 10 ** 5, run_text, LONG)
        self.refused(TooMany, 1001, run_text, ("",) * 1001)
        self.refused(BadText, 0, run_of, "\n" * 999)

    def test_changed_texts(self):
        for text in ("", "change 0 1 2", "change 1 0 12\nchange 10 5 3\nchange 0 0 0"):
            for other in changed_texts(text):
                i = bad_row(other)
                if i is None:
                    self.assertEqual(run_text(run_of(other)), other)
                else:
                    self.refused(BadText, i, run_of, other)

    def test_wrong_texts(self):
        for row in (" ", "change", "change ", "change 0 1", "change 0 1 2 3", "change 0 1 2 ", " change 0 1 2", "mark",
                    "change  0 1 2", "change 00 1 2", "change 0 1 02", "change 0 1 13", "change 0 -1 2", "Change 0 1 2",
                    "change 0 1 +2", "change 0-1-2", "change 0 1 2\r", "change\t0 1 2", "change 0 1 \u0662",
                    "change a b c"):
            self.refused(BadText, 0, run_of, row)
            self.refused(BadText, 2, run_of, "change 0 1 2\nchange 5 4 3\n" + row + "\n" + row)
        self.refused(BadText, 1, run_of, "change 0 1 2\n")
        self.refused(BadText, 0, run_of, "\nchange 0 1 2")

    def test_wrong_deeds(self):
        for deed in ODD + ((), DEEP, ("change",), ("change", 0, 1), ("change", 0, 1, 2, 3), ("mark", 0, 1, 2),
                           (0, 1, 2), ("change", 0, 1, 13), ("change", -1, 1, 2), ("change", 0, 10 ** 40, 2),
                           ("change", True, 1, 2), ("change", 0, 1, False), ("change", "0", 1, 2),
                           ("change", 0, 1, (2,)), ("regroup", 0, 1, 2), "change 0 1 2", (0, 1, 2, "change")):
            self.refused(BadDeed, (0, 0), run_text, (deed, deed))
            self.refused(BadDeed, (2, 0), run_text, (DEED, ("change", 5, 4, 3), deed, DEED))


if __name__ == "__main__":
    unittest.main()
