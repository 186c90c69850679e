import re
import unittest
from itertools import product

from datedlines.calendarlooks import plain, star
from datedlines.calendars import Calendar
from datedlines.calendartext import calendar_of, calendar_text
from datedlines.errors import BadText
from support import (LATE, LATE_MANY, LATE_TWELVE, MIXED, PAIRS, PLAIN_TWELVE, SINGLE, TWO_LEFT, WIDE, Case,
                     changed_texts, enough, small_calendars)


def bad_row(text):
    """The index that BadText tells, None if the text is one of a calendar."""
    rows = text.split("\n")
    if not re.fullmatch("born( ([0-9]|1[0-2])){1,12}", rows[0]):
        return 0
    born = [int(word) for word in rows[0].split(" ")[1:]]
    if max(born) > len(rows) - 1:
        return 0
    days = []
    for i, row in enumerate(rows[1:], 1):
        if i == 12 or not re.fullmatch("day( ([2-9]|1[0-2]))+", row):
            return i
        days.append([int(word) for word in row.split(" ")[1:]])
        if days[-1] != sorted(days[-1], reverse=True):
            return i
    return None if enough(born, days) else len(rows)


class CalendarTextTest(Case):
    def test_texts(self):
        for calendar, text in ((SINGLE, "born 0"), (plain(3), "born 0 0 0\nday 2\nday 2"),
                               (star(12), "born" + " 0" * 12 + "\nday 12"), (PAIRS, "born 0 0 0 0\nday 2 2\nday 2"),
                               (LATE, "born 0 0 1 1 2\nday 2\nday 2\nday 3"), (Calendar((0, 0), ()), "born 0 0"),
                               (MIXED, "born 0 0 0 0 0 0 1\nday 3 2\nday 2 2"),
                               (TWO_LEFT, "born 0 0 1 0 3\nday 2\nday 2\nday 2")):
            self.assertEqual(calendar_text(calendar), text)
            self.assertEqual(calendar_of(text), calendar)

    def test_there_and_back(self):
        # The last one has a leaf that is born behind all ten days.
        calendars = small_calendars(4, 2) + [PLAIN_TWELVE, LATE_TWELVE, LATE_MANY, WIDE,
                                             Calendar((0,) * 11 + (10,), ((2,),) * 10)]
        texts = [calendar_text(calendar) for calendar in calendars]
        self.assertEqual(len(set(texts)), len(calendars))
        for calendar, text in zip(calendars, texts):
            self.assertEqual(calendar_of(text), calendar)

    def test_changed_texts(self):
        for calendar in (SINGLE, plain(3), LATE, PAIRS, MIXED, TWO_LEFT, PLAIN_TWELVE):
            for text in changed_texts(calendar_text(calendar)):
                self.assert_strict(text)

    def test_all_small_texts(self):
        words = ("born", "day", "0", "1", "2", "3", "")
        for many in range(6):
            for row in product(words, repeat=many):
                for mark in (" ", "\n"):
                    self.assert_strict("born 0" + mark + " ".join(row))

    def assert_strict(self, text):
        i = bad_row(text)
        if i is None:
            self.assertEqual(calendar_text(calendar_of(text)), text)
        else:
            self.refused(BadText, i, calendar_of, text)

    def test_wrong_births(self):
        for text in ("", "\n", "born", "born ", "born\nday 2", "born 0 ", " born 0", "born  0", "born 00", "born 01 0",
                     "born -0", "born +0", "born 1", "born 0 2\nday 2", "born 13", "born 0\r", "Born 0", "born\t0",
                     "born" + " 0" * 13, "born 0 0\tday 2", "day 2", "day 2\nborn 0 0", "born x", "born \u0660",
                     "born 0 0 4\nday 2\nx\n", "born 0,0", "born 0.", "born 1_0"):
            self.refused(BadText, 0, calendar_of, text)

    def test_births_are_compared_with_all_rows(self):
        # Good or bad, each row behind the first one is a day.
        self.refused(BadText, 1, calendar_of, "born 0 0 3\n\nday 2\nx")
        self.refused(BadText, 0, calendar_of, "born 0 0 4\n\nday 2\nx")
        self.refused(BadText, 12, calendar_of, "born 12" + " 0" * 11 + "\nday 2" * 12)
        self.refused(BadText, 12, calendar_of, "born" + " 0" * 12 + "\nday 2" * 12)
        self.refused(BadText, 12, calendar_of, "born 12" + " 0" * 11 + "\nday 2" * 20)
        self.refused(BadText, 0, calendar_of, "born 12" + " 0" * 11 + "\nday 2" * 11)
        self.refused(BadText, 3, calendar_of, "born 12" + " 0" * 11 + "\nday 2" * 2 + "\nday 1" + "\nday 2" * 11)

    def test_wrong_days(self):
        for row in ("", " ", "day", "day ", "day 1", "day 0", "day 2 3", "day 02", "day 2 ", " day 2", "day  2",
                    "day 2,2", "days 2", "Day 2", "day 13", "day -2", "day 2\r", "day 2 2 1", "born 0", "2",
                    "day day 2", "day x"):
            self.refused(BadText, 1, calendar_of, "born 0 0 0 0\n" + row)
            self.refused(BadText, 2, calendar_of, "born 0 0 0 0\nday 2\n" + row + "\nday 12\n" + row)

    def test_more_meet_than_are_alive(self):
        self.refused(BadText, 2, calendar_of, "born 0\nday 2")
        self.refused(BadText, 3, calendar_of, "born 0 0 2\nday 2\nday 2")
        self.refused(BadText, 5, calendar_of, "born 0 0 0\nday 2\nday 12\nday 2\nday 2")
        self.refused(BadText, 12, calendar_of, "born" + " 0" * 11 + "\nday 2" * 11)
        self.refused(BadText, 2, calendar_of, "born 0 0\nday" + " 2" * 50000)


if __name__ == "__main__":
    unittest.main()
