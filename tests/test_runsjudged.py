import unittest

from datedlines.calendarlooks import plain
from datedlines.runs import run_between
from datedlines.runsjudged import run_right
from support import DEEP, LATE, LONG, ODD, SINGLE, Case, listed_trees

CHAIN = (((0, 1),), ((0, 2),))
OTHER = (((0, 2),), ((0, 1),))
DEED = ("change", 0, 1, 2)


class RunsJudgedTest(Case):
    def test_right(self):
        self.assertIs(run_right(SINGLE, (), (), ()), True)
        self.assertIs(run_right(plain(3), CHAIN, (), CHAIN), True)
        self.assertIs(run_right(plain(3), CHAIN, (DEED,), OTHER), True)
        self.assertIs(run_right(plain(3), CHAIN, (DEED,) * 1000, CHAIN), True)
        for one in listed_trees(LATE):
            for two in listed_trees(LATE):
                self.assertIs(run_right(LATE, one, run_between(LATE, one, two), two), True)

    def test_leads_elsewhere(self):
        self.assertIs(run_right(plain(3), CHAIN, (DEED,), CHAIN), False)
        self.assertIs(run_right(plain(3), CHAIN, (), OTHER), False)
        self.assertIs(run_right(plain(3), CHAIN, (DEED,) * 999, CHAIN), False)

    def test_too_long(self):
        self.assertIs(run_right(plain(3), CHAIN, (DEED,) * 1002, CHAIN), False)
        self.assertIs(run_right(plain(3), CHAIN, (DEED,) * 1001, OTHER), False)

    def test_deeds_that_cannot_be_done(self):
        for thing in ODD + (DEEP, ("change", 2, 0, 1), ("change", 0, 2, 1), ("change", 1, 0, 1), ("change", 0, 0),
                            ("change", 0, 0, True)):
            self.assertIs(run_right(plain(3), CHAIN, (thing,), CHAIN), False)
            self.assertIs(run_right(plain(3), CHAIN, (DEED, DEED, thing), CHAIN), False)

    def test_any_things(self):
        for thing in ODD + (DEEP, LONG, None, (DEED,) * 1001, DEED):
            self.assertIs(run_right(plain(3), CHAIN, thing, CHAIN), False)
            self.assertIs(run_right(plain(3), thing, (), CHAIN), False)
            self.assertIs(run_right(plain(3), CHAIN, (), thing), False)
            self.assertIs(run_right(plain(3), thing, (), thing), False)
            self.assertIs(run_right(SINGLE, thing, (), thing), False)
        self.assertIs(run_right(plain(3), CHAIN, "", CHAIN), False)
        # True equals 1 and False equals 0, but neither is a number.
        self.assertIs(run_right(plain(3), CHAIN, (), (((0, True),), ((0, 2),))), False)
        self.assertIs(run_right(plain(3), CHAIN, (), (((0, 1),), ((False, 2),))), False)
        self.assertIs(run_right(plain(3), ("a", "b"), (), ("a", "b")), False)
        self.assertIs(run_right(plain(3), CHAIN[:1], (), CHAIN[:1]), False)


if __name__ == "__main__":
    unittest.main()
