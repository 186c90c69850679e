import unittest

from datedlines.calendarlooks import plain, star
from datedlines.calendars import Calendar
from datedlines.errors import BadLeaf, BadMoment, BadSet
from datedlines.meetings import meeting, partners
from support import (LATE, LATE_MANY, LATE_TWELVE, PAIRS, PLAIN_TWELVE, SINGLE, TWO_LEFT, WIDE, Case, behind_all,
                     chance_calendars, first_of, line_of, listed_chances, lowest)


class MeetingTest(Case):
    def test_meeting(self):
        self.assertEqual(meeting(plain(4), 0, 1), ((0, (1, 6)), (1, (5, 18)), (2, (5, 9))))
        self.assertEqual(meeting(PAIRS, 0, 1), ((0, (1, 3)), (1, (2, 3))))
        self.assertEqual(meeting(star(12), 3, 11), ((0, (1, 1)),))

    def test_two_that_never_meet(self):
        self.assertEqual(meeting(Calendar((0, 0), ()), 0, 1), ((0, (1, 1)),))
        self.assertEqual(meeting(TWO_LEFT, 0, 4), ((3, (1, 1)),))
        self.assertEqual(meeting(LATE, 0, 4), ((2, (1, 1)),))

    def test_against_all_trees(self):
        for calendar in chance_calendars():
            for x in range(len(calendar.born)):
                for y in range(len(calendar.born)):
                    if x != y:
                        together = (lambda d, lots: {x, y} <= (line_of(lots, x) or set()))
                        told = listed_chances(calendar, lambda behind: first_of(behind, together))
                        self.assertEqual(meeting(calendar, x, y), told)

    def test_twelve_leaves(self):
        for calendar in (PLAIN_TWELVE, WIDE, LATE_TWELVE, LATE_MANY):
            for x in range(12):
                for y in range(x):
                    found = meeting(calendar, x, y)
                    self.assert_chances(found)
                    self.assertGreaterEqual(found[0][0], max(calendar.born[x], calendar.born[y]))
                    self.assertEqual(meeting(calendar, y, x), found)
        self.assertEqual(meeting(PLAIN_TWELVE, 0, 11)[0], (0, (1, 66)))
        self.assertEqual(meeting(PLAIN_TWELVE, 0, 11)[-1], (10, (13, 33)))

    def test_wrong(self):
        for x in (-1, 5, 10 ** 40):
            self.refused(BadLeaf, x, meeting, LATE, x, x)
            self.refused(BadLeaf, x, meeting, LATE, 0, x)
        self.refused(BadSet, 3, meeting, LATE, 3, 3)
        self.refused(BadSet, 0, meeting, SINGLE, 0, 0)


class PartnersTest(Case):
    def test_partners(self):
        for x in range(4):
            self.assertEqual(partners(plain(4), 0, x), (1, 2))
        self.assertEqual(partners(LATE, 2, 4), (1, 1))
        self.assertEqual(partners(LATE, 1, 3), (2, 3))

    def test_against_all_trees(self):
        for calendar in chance_calendars():
            trees = behind_all(calendar)
            for d in range(len(calendar.days)):
                for x, moment in enumerate(calendar.born):
                    if moment <= d:
                        met = 0
                        for behind in trees:
                            ahead = {x} if d == 0 or moment == d else line_of(behind[d - 1], x)
                            met += line_of(behind[d], x) != ahead
                        self.assertEqual(partners(calendar, d, x), lowest(met, len(trees)))

    def test_wrong(self):
        for d in (-1, 3, 10 ** 40):
            self.refused(BadMoment, d, partners, plain(4), d, 99)
        self.refused(BadMoment, 0, partners, SINGLE, 0, 0)
        for x in (-1, 4, 10 ** 40):
            self.refused(BadLeaf, x, partners, plain(4), 2, x)
        self.refused(BadLeaf, 4, partners, LATE, 1, 4)
        self.refused(BadLeaf, 4, partners, TWO_LEFT, 2, 4)


if __name__ == "__main__":
    unittest.main()
