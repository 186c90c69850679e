import unittest

from datedlines.calendarlooks import plain
from datedlines.draws import drawn
from datedlines.errors import BadCount
from datedlines.nthtree import nth_tree, tree_rank
from datedlines.numbers import size
from support import LATE, LATE_TWELVE, PLAIN_TWELVE, SINGLE, WIDE, Case


class DrawsTest(Case):
    def test_one_digit(self):
        for digit in range(-20, 40):
            self.assertEqual(drawn(plain(4), (digit,)), nth_tree(plain(4), digit % 18))

    def test_several_digits(self):
        for calendar in (plain(4), LATE, PLAIN_TWELVE, WIDE):
            for digits in ((3, 1, 4), (0, 0), (-5, 10 ** 40, 7), (1, 0), tuple(range(50))):
                r = 0
                for digit in digits:
                    r = r * 1000003 + digit
                self.assertEqual(tree_rank(calendar, drawn(calendar, digits)), r % size(calendar))

    def test_edges(self):
        self.assertEqual(drawn(SINGLE, (99,)), ())
        self.assertEqual(drawn(LATE_TWELVE, (5, 6)), nth_tree(LATE_TWELVE, 0))
        self.refused(BadCount, 0, drawn, plain(4), ())
        self.refused(BadCount, 0, drawn, SINGLE, ())


if __name__ == "__main__":
    unittest.main()
