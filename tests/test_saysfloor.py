import unittest

from datedlines.calendarlooks import plain
from datedlines.calendars import Calendar
from datedlines.calendartext import calendar_text
from datedlines.errors import (BadDeed, BadMoment, BadRow, BadWord, NothingToRedo, NothingToUndo, Refused, TooMany,
                               Unlike)
from datedlines.floor import Floor
from datedlines.floorasks import can_go_home, kin, way_home
from datedlines.nthtree import nth_tree
from datedlines.numbers import size
from datedlines.runtext import run_text
from datedlines.saysfloor import answer, asked
from datedlines.treetext import tree_text
from floormodel import random_steps
from support import LATE, LATE_MANY, MIXED, PAIRS, PLAIN_TWELVE, SINGLE, TREE, TWO_LEFT, Case, changed_texts

SMALL = (((0, 1),), ((0, 2),))
ROWS = ("change 0 1 2", "regroup 0 0-1 2-3", "regroup 1", "mark", "undo", "redo", "tree", "calendar", "home", "way",
        "kin")


def state(floor):
    return floor.calendar(), floor.tree(), floor.marked(), floor.record()


def row_of(step):
    """The row that tells a step, None if it has another thing than numbers from 0 to 12."""
    kind, *more = step
    if kind == "regroup":
        d, row = more
        if d not in range(13) or not all_groups(row):
            return None
        return " ".join(["regroup", str(d)] + ["-".join(map(str, group)) for group in row])
    if any(number not in range(13) for number in more):
        return None
    return " ".join([kind] + [str(number) for number in more])


def all_groups(row):
    """Whether the row can be written: a tuple of tuples of numbers from 0 to 12, each of one or more."""
    if not isinstance(row, tuple) or not all(isinstance(group, tuple) and group for group in row):
        return False
    return all(name.__class__ is int and name in range(13) for group in row for name in group)


def outcome(function, *args):
    """What a call returns, or the class of its error and its what."""
    try:
        return function(*args)
    except Refused as error:
        return error.__class__, error.what


class SaysFloorTest(Case):
    def test_answer(self):
        floor = Floor(plain(3), SMALL)
        for row, told in (("tree", "meet 0-1;meet 0-2"), ("calendar", "born 0 0 0;day 2;day 2"), ("home", "yes"),
                          ("change 0 1 2", "ok"), ("tree", "meet 0-2;meet 0-1"), ("undo", "ok"),
                          ("tree", "meet 0-1;meet 0-2"), ("redo", "ok"), ("mark", "ok"), ("regroup 1 0-1", "ok"),
                          ("home", "yes")):
            self.assertEqual(answer(floor, row), told)
        self.assertEqual(floor.record(), (("change", 0, 1, 2), ("mark",), ("regroup", 1, ((0, 1),), ((0, 1),))))

    def test_asked(self):
        floor = Floor(plain(4), TREE)
        self.assertEqual(asked(floor, "way"), "")
        self.assertEqual(asked(floor, "kin"), "18")
        floor.change(1, 2, 3)
        floor.change(0, 1, 3)
        floor.change(1, 0, 1)
        self.assertEqual(asked(floor, "way"), run_text(way_home(floor)).replace("\n", ";"))
        self.assertIn(";", asked(floor, "way"))
        self.assertEqual(asked(floor=Floor(PLAIN_TWELVE, nth_tree(PLAIN_TWELVE, 0)), row="kin"), "9336040560000")

    def test_home_and_away(self):
        floor = Floor(PAIRS, (((0, 1), (2, 3)), ((0, 2),)))
        self.assertEqual(answer(floor, "regroup 0 0-1"), "ok")
        self.assertEqual(answer(floor, "home"), "no")
        self.refused(Unlike, 0, asked, floor, "way")
        self.assertEqual(asked(floor, "kin"), "18")
        self.assertEqual(answer(floor, "regroup 1 0-2-3"), "ok")
        self.assertEqual(answer(floor, "calendar"), "born 0 0 0 0;day 2;day 3")
        self.assertEqual(answer(floor, "tree"), "meet 0-1;meet 0-2-3")

    def test_without_days(self):
        floor = Floor(Calendar((0, 0), ()), ())
        self.assertEqual((answer(floor, "tree"), answer(floor, "calendar")), ("", "born 0 0"))
        self.assertEqual((asked(floor, "way"), asked(floor, "kin")), ("", "1"))

    def test_what_the_floor_raises(self):
        floor = Floor(plain(3), SMALL)
        for row, error, what in (("undo", NothingToUndo, 0), ("redo", NothingToRedo, 0), ("change 2 0 1", BadDeed, 1),
                                 ("change 12 12 12", BadDeed, 1), ("change 0 1 1", BadDeed, 2),
                                 ("change 0 2 1", BadDeed, 2), ("change 0 0 12", BadDeed, 2),
                                 ("regroup 2 0-1", BadMoment, 2), ("regroup 12", BadMoment, 12),
                                 ("regroup 0", BadRow, 0), ("regroup 1", BadRow, 1), ("regroup 0 0", BadRow, 0),
                                 ("regroup 0 0-1 2", BadRow, 0), ("regroup 0 1-0", BadRow, 0),
                                 ("regroup 0 0-0", BadRow, 0), ("regroup 0 0-12", BadRow, 0),
                                 ("regroup 0 0-1 0-2", BadRow, 0), ("regroup 0 0-1-2", BadRow, 1)):
            self.refused(error, what, answer, floor, row)
        self.assertEqual(state(floor), (plain(3), SMALL, (plain(3), SMALL), ()))
        for _ in range(300):
            self.assertEqual(answer(floor, "mark"), "ok")
        for row in ("mark", "change 0 1 2", "regroup 1 0-2"):
            self.refused(TooMany, 301, answer, floor, row)
        self.refused(BadWord, "mark ", answer, floor, "mark ")

    def test_rows_that_are_none(self):
        floor = Floor(plain(3), SMALL)
        for row in ("", " ", "Mark", "mark ", " mark", "mark mark", "undo 1", "trees", "tree\n", "calendar ",
                    "home?", "yes", "change", "change ", "change 0 1", "change 0 1 2 ", "change 0 1 2 3",
                    "change  0 1 2", "change 0 01 2", "change 0 1 13", "change 0 -1 2", "change 0,1,2",
                    "change 0 1 \u0662", "regroup", "regroup ",
                    "regroup x", "regroup 13 0-1", "regroup 00 0-1", "regroup 0 ", "regroup 0  0-1", "regroup 0 0-1 ",
                    "regroup 0 0--1", "regroup 0 -1", "regroup 0 0-", "regroup 0 -", "regroup 0 0-01", "regroup 0 0-13",
                    "regroup 0 0,1", "regroup 0-1", "regroup 0 0-1;0-2", "regroup -1 0-1", "Regroup 0 0-1", "meet 0-1",
                    "change 0 1 2;mark", "mark\n", "redo\r", "x" * 10 ** 5, "regroup 0" + " " * 10 ** 5):
            self.refused(BadWord, row, answer, floor, row)
            self.refused(BadWord, row, asked, floor, row)
        for row in ("way", "kin"):
            self.refused(BadWord, row, answer, floor, row)
        for row in ROWS[:-2]:
            self.refused(BadWord, row, asked, floor, row)
        self.assertEqual(state(floor), (plain(3), SMALL, (plain(3), SMALL), ()))

    def test_changed_rows(self):
        floor = Floor(plain(4), TREE)
        for row in ROWS:
            for other in changed_texts(row):
                floor = Floor(plain(4), TREE)
                self.assertEqual(outcome(answer, floor, other), self.told_answer(other))
                found = outcome(asked, floor, other)
                self.assertEqual(found, {"way": "", "kin": "18"}.get(other, (BadWord, other)))

    def told_answer(self, row):
        """What a fresh floor on TREE answers to a row, from its own methods."""
        floor = Floor(plain(4), TREE)
        words = row.split(" ")
        numbers = [int(word) if word in map(str, range(13)) else None for word in words[1:]]
        if row in ("mark", "undo", "redo"):
            found = outcome(getattr(floor, row))
        elif row in ("tree", "calendar", "home"):
            return {"tree": "meet 0-1;meet 2-3;meet 0-2", "calendar": "born 0 0 0 0;day 2;day 2;day 2",
                    "home": "yes"}[row]
        elif words[0] == "change" and len(numbers) == 3 and None not in numbers:
            found = outcome(floor.change, *numbers)
        elif words[0] == "regroup" and numbers and numbers[0] is not None:
            groups = [[int(part) if part in map(str, range(13)) else None for part in word.split("-")]
                      for word in words[2:]]
            if any(None in group for group in groups):
                return BadWord, row
            found = outcome(floor.regroup, numbers[0], tuple(map(tuple, groups)))
        else:
            return BadWord, row
        return "ok" if found is None else found

    def test_alike_to_the_calls(self):
        done = {}
        for calendar in (plain(3), plain(4), LATE, PAIRS, TWO_LEFT, MIXED, SINGLE, LATE_MANY, PLAIN_TWELVE):
            for seed in range(4):
                tree = nth_tree(calendar, size(calendar) * seed // 4)
                self.assert_alike(calendar, tree, random_steps(calendar, tree, 120, seed), done)
        for kind in ("change", "regroup", "mark", "undo", "redo"):
            self.assertGreater(done[kind], 50)

    def assert_alike(self, calendar, tree, steps, done):
        called, told = Floor(calendar, tree), Floor(calendar, tree)
        for step in steps:
            row = row_of(step)
            if row is None:
                continue
            found = outcome(getattr(called, step[0]), *step[1:])
            self.assertEqual(outcome(answer, told, row), "ok" if found is None else found)
            done[step[0]] = done.get(step[0], 0) + 1
            self.assertEqual(state(told), state(called))
            self.assertEqual(answer(told, "tree"), tree_text(called.calendar(), called.tree()).replace("\n", ";"))
            self.assertEqual(answer(told, "calendar"), calendar_text(called.calendar()).replace("\n", ";"))
            self.assertEqual(answer(told, "home"), "yes" if can_go_home(called) else "no")
            self.assertEqual(asked(told, "kin"), str(kin(called)))
            way = outcome(way_home, called)
            right = way if way and way[0] is Unlike else run_text(way).replace("\n", ";")
            self.assertEqual(outcome(asked, told, "way"), right)


if __name__ == "__main__":
    unittest.main()
