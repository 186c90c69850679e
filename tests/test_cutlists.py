import unittest
from fractions import Fraction

from datedlines.calendarlooks import plain, star
from datedlines.calendars import Calendar
from datedlines.cutlists import cuts_of
from datedlines.cuts import cut
from datedlines.cutshares import cut_share
from datedlines.errors import BadSet, TooMany
from datedlines.meetings import meeting
from support import (LATE, LATE_MANY, LATE_TWELVE, MIXED, PAIRS, PLAIN_TWELVE, SINGLE, TWO_LEFT, WIDE, WRONG_SETS,
                     Case, lowest, small_calendars, subsets, trees_of)


class CutsOfTest(Case):
    def test_cuts_of(self):
        self.assertEqual(cuts_of(plain(4), (0, 1, 2)), ((((2,), (2,)), (0, 1), (1, 6)), (((2,), (2,)), (0, 2), (1, 3)),
                                                        (((2,), (2,)), (1, 2), (1, 2))))
        self.assertEqual(cuts_of(star(4), (0, 1, 3)), ((((3,),), (0,), (1, 1)),))

    def test_edges(self):
        self.assertEqual(cuts_of(SINGLE, (0,)), (((), (), (1, 1)),))
        self.assertEqual(cuts_of(PLAIN_TWELVE, (5,)), (((), (), (1, 1)),))
        self.assertEqual(cuts_of(Calendar((0,) * 4, ()), (0, 1, 2, 3)), (((), (), (1, 1)),))
        # The leaf 4 is born behind all days.
        self.assertEqual(cuts_of(TWO_LEFT, (0, 4)), (((), (), (1, 1)),))
        self.assertEqual(cuts_of(plain(4), (0, 1, 2, 3)), ((((2,),) * 3, (0, 1, 2), (1, 1)),))

    def test_against_all_trees(self):
        calendars = small_calendars(4, 3)[::2] + small_calendars(5, 2)[::9] + [LATE, TWO_LEFT, PAIRS, MIXED, plain(5)]
        for calendar in calendars:
            for some in subsets(range(len(calendar.born))):
                if len(some) <= 4:
                    had = [cut(calendar, tree, some) for tree in trees_of(calendar)]
                    found = [(small.days, days) for small, _, days in had]
                    told = [place + (lowest(found.count(place), len(found)),) for place in sorted(set(found))]
                    self.assertEqual(cuts_of(calendar, some), tuple(told))

    def test_twelve_leaves(self):
        for calendar in (PLAIN_TWELVE, LATE_TWELVE, LATE_MANY, WIDE):
            for some in ((0, 1), (0, 5, 11), (0, 1, 2, 3), (2, 4, 7, 10), (8, 9, 10, 11)):
                found = cuts_of(calendar, some)
                self.assertEqual(sum(Fraction(*chance) for _, _, chance in found), 1)
                self.assertEqual([triple[:2] for triple in found], sorted(triple[:2] for triple in found))
                for patterns, days, chance in found:
                    born = tuple(len([d for d in days if d < calendar.born[x]]) for x in some)
                    self.assertEqual(cut_share(calendar, some, Calendar(born, patterns), days), chance)

    def test_two_leaves(self):
        for calendar in (PLAIN_TWELVE, LATE_MANY, WIDE, TWO_LEFT):
            for some in ((0, 1), (1, 4), (2, 3)):
                never = len(calendar.days)
                told = [(((2,),), (d,), chance) for d, chance in meeting(calendar, *some) if d < never]
                told += [((), (), chance) for d, chance in meeting(calendar, *some) if d == never]
                self.assertEqual(cuts_of(calendar, some), tuple(sorted(told)))

    def test_wrong(self):
        for some, i in WRONG_SETS:
            self.refused(BadSet, i, cuts_of, plain(4), some)
        for many in range(5, 13):
            self.refused(TooMany, many, cuts_of, PLAIN_TWELVE, tuple(range(many)))
        self.refused(BadSet, 5, cuts_of, plain(5), (0, 1, 2, 3, 4, 5))


if __name__ == "__main__":
    unittest.main()
