import unittest

from datedlines.calendarlooks import plain
from datedlines.calendars import Calendar, made_calendar
from datedlines.errors import (BadDeed, BadMoment, BadRow, BadSize, NothingToRedo, NothingToUndo, Refused, TooMany)
from datedlines.floor import Floor
from datedlines.nthtree import nth_tree
from datedlines.numbers import size
from datedlines.trees import is_tree
from floormodel import Model, random_steps
from support import (DEEP, LATE, LATE_MANY, LONG, MIXED, ODD, PAIRS, PLAIN_TWELVE, SINGLE, TREE, TWO_LEFT, WIDE, Case)

SMALL = (((0, 1),), ((0, 2),))
FLOORS = (plain(3), plain(4), LATE, PAIRS, TWO_LEFT, MIXED, SINGLE, WIDE, PLAIN_TWELVE, LATE_MANY)


def state(floor):
    return floor.calendar(), floor.tree(), floor.marked(), floor.record()


class FloorTest(Case):
    def test_at_its_beginning(self):
        floor = Floor(plain(4), TREE)
        self.assertEqual(state(floor), (plain(4), TREE, (plain(4), TREE), ()))
        self.refused(NothingToUndo, 0, floor.undo)
        self.refused(NothingToRedo, 0, floor.redo)

    def test_by_name(self):
        floor = Floor(tree=TREE, calendar=plain(4))
        self.assertIsNone(floor.change(b=2, a=1, d=0))
        self.assertIsNone(floor.regroup(row=((0, 1),), d=2))
        self.assertEqual(len(floor.record()), 2)

    def test_wrong_trees(self):
        self.refuses_trees(Floor)

    def test_change(self):
        floor = Floor(plain(3), SMALL)
        self.assertIsNone(floor.change(0, 1, 2))
        after = (plain(3), (((0, 2),), ((0, 1),)), (plain(3), SMALL), (("change", 0, 1, 2),))
        self.assertEqual(state(floor), after)
        self.assertIsNone(floor.undo())
        self.assertEqual(state(floor), (plain(3), SMALL, (plain(3), SMALL), ()))
        self.assertIsNone(floor.redo())
        self.assertEqual(state(floor), after)

    def test_a_change_that_alters_nothing_stands(self):
        floor = Floor(plain(3), SMALL)
        floor.change(0, 0, 1)
        self.assertEqual(state(floor), (plain(3), SMALL, (plain(3), SMALL), (("change", 0, 0, 1),)))
        floor.undo()
        floor.redo()
        self.refused(NothingToRedo, 0, floor.redo)

    def test_wrong_changes(self):
        floor = Floor(plain(3), SMALL)
        for d in (-1, 2, 10 ** 40):
            self.refused(BadDeed, 1, floor.change, d, 5, 5)
        for a, b in ((1, 1), (2, 1), (0, 3), (-1, 0), (0, 10 ** 40)):
            self.refused(BadDeed, 2, floor.change, 0, a, b)
        self.refused(BadDeed, 2, floor.change, 1, 1, 2)
        self.refused(BadDeed, 1, Floor(SINGLE, ()).change, 0, 0, 0)
        self.assertEqual(state(floor), (plain(3), SMALL, (plain(3), SMALL), ()))

    def test_regroup(self):
        floor = Floor(PAIRS, (((0, 1), (2, 3)), ((0, 2),)))
        self.assertIsNone(floor.regroup(0, ((0, 1),)))
        self.assertEqual(floor.calendar(), Calendar((0,) * 4, ((2,), (2,))))
        self.assertEqual(floor.tree(), (((0, 1),), ((0, 2),)))
        self.assertIsNone(floor.regroup(1, ((0, 2, 3),)))
        self.assertEqual(floor.calendar(), Calendar((0,) * 4, ((2,), (3,))))
        self.assertEqual(floor.record(), (("regroup", 0, ((0, 1), (2, 3)), ((0, 1),)),
                                          ("regroup", 1, ((0, 2),), ((0, 2, 3),))))
        floor.undo()
        floor.undo()
        self.assertEqual(state(floor)[:2], (PAIRS, (((0, 1), (2, 3)), ((0, 2),))))

    def test_sizes_fall(self):
        floor = Floor(Calendar((0,) * 7, ((2,),)), (((0, 1),),))
        floor.regroup(0, ((0, 6), (1, 3, 5), (2, 4)))
        self.assertEqual(floor.calendar().days, ((3, 2, 2),))

    def test_regroup_without_names_later(self):
        floor = Floor(plain(3), SMALL)
        self.refused(BadRow, 1, floor.regroup, 0, ((0, 1, 2),))
        self.refused(BadRow, 1, floor.regroup, 0, ((0, 2),))
        four = Floor(plain(4), TREE)
        self.refused(BadRow, 1, four.regroup, 0, ((0, 1), (2, 3)))
        self.refused(BadRow, 2, four.regroup, 1, ((0, 2),))
        self.refused(BadRow, 1, four.regroup, 0, ((0, 3),))
        self.assertEqual(state(four), (plain(4), TREE, (plain(4), TREE), ()))
        # The leaf 4 is born only at moment 2.
        late = Floor(LATE, (((0, 1),), ((2, 3),), ((0, 2, 4),)))
        self.refused(BadRow, 1, late.regroup, 1, ((2, 4),))

    def test_wrong_rows(self):
        floor = Floor(plain(4), TREE)
        for d in (-1, 3, 10 ** 40):
            self.refused(BadMoment, d, floor.regroup, d, "")
        self.refused(BadMoment, 0, Floor(SINGLE, ()).regroup, 0, ())
        for row in ODD + ((), ((),), ((0,),), ((0, 0),), ((1, 0),), ((0, 1), (1, 2)), ((2, 3), (0, 1)), ((0, 4),),
                          ((-1, 0),), ((0, True),), ((False, 1),), (("0", 1),), ((0, (1,)),), ((0, 1), ""), (0, 1),
                          ((0, 1), (2,)), ((0, 1), ()), ((0, 10 ** 40),), ((0, 1, 1),), ((0, 1), (0, 1)), DEEP, LONG):
            self.refused(BadRow, 0, floor.regroup, 0, row)
            self.refused(BadRow, 1, floor.regroup, 1, row)
        self.refused(BadRow, 2, floor.regroup, 2, ((0, 1),))
        self.assertEqual(state(floor), (plain(4), TREE, (plain(4), TREE), ()))

    def test_mark(self):
        floor = Floor(plain(3), SMALL)
        floor.change(0, 1, 2)
        self.assertIsNone(floor.mark())
        moved = (((0, 2),), ((0, 1),))
        self.assertEqual(floor.marked(), (plain(3), moved))
        floor.regroup(1, ((0, 1),))
        floor.change(0, 0, 1)
        self.assertEqual(floor.marked(), (plain(3), moved))
        self.assertEqual(floor.record()[1], ("mark",))
        for _ in range(3):
            floor.undo()
        self.assertEqual(floor.marked(), (plain(3), SMALL))
        floor.redo()
        self.assertEqual(floor.marked(), (plain(3), moved))

    def test_nothing_to_redo_behind_a_new_deed(self):
        for deed in (("change", 0, 0, 2), ("regroup", 1, ((0, 2),)), ("mark",)):
            floor = Floor(plain(3), SMALL)
            floor.change(0, 0, 1)
            floor.change(0, 1, 2)
            floor.undo()
            floor.undo()
            getattr(floor, deed[0])(*deed[1:])
            self.refused(NothingToRedo, 0, floor.redo)
            self.assertEqual(len(floor.record()), 1)

    def test_a_refused_deed_leaves_what_can_be_redone(self):
        floor = Floor(plain(3), SMALL)
        floor.change(0, 1, 2)
        floor.undo()
        self.refused(BadDeed, 2, floor.change, 0, 1, 1)
        self.refused(BadRow, 1, floor.regroup, 0, ((0, 1, 2),))
        floor.redo()
        self.assertEqual(floor.record(), (("change", 0, 1, 2),))

    def test_three_hundred_deeds(self):
        floor = Floor(plain(3), SMALL)
        for k in range(300):
            floor.mark() if k % 3 else floor.change(0, 1, 2)
        before = state(floor)
        self.refused(TooMany, 301, floor.mark)
        self.refused(TooMany, 301, floor.change, 0, 1, 2)
        self.refused(TooMany, 301, floor.regroup, 1, ((0, 2),))
        # Their own errors come first.
        self.refused(BadDeed, 1, floor.change, 2, 1, 2)
        self.refused(BadDeed, 2, floor.change, 0, 2, 1)
        self.refused(BadMoment, 2, floor.regroup, 2, ())
        self.refused(BadRow, 0, floor.regroup, 0, ())
        self.refused(BadRow, 1, floor.regroup, 0, ((0, 1, 2),))
        self.assertEqual(state(floor), before)
        floor.undo()
        floor.redo()
        self.assertEqual(state(floor), before)
        self.refused(TooMany, 301, floor.mark)
        floor.undo()
        floor.mark()
        self.assertEqual(len(floor.record()), 300)
        for _ in range(300):
            floor.undo()
        self.assertEqual(state(floor), (plain(3), SMALL, (plain(3), SMALL), ()))
        self.refused(NothingToUndo, 0, floor.undo)
        for _ in range(300):
            floor.redo()
        self.refused(NothingToRedo, 0, floor.redo)
        self.assertEqual(len(floor.record()), 300)

    def test_two_floors_of_one_tree(self):
        one, two = Floor(plain(3), SMALL), Floor(plain(3), SMALL)
        one.change(0, 1, 2)
        one.regroup(1, ((0, 1),))
        self.assertEqual(state(two), (plain(3), SMALL, (plain(3), SMALL), ()))
        two.mark()
        self.assertEqual(len(one.record()), 2)
        self.refused(NothingToRedo, 0, two.redo)

    def test_what_is_returned_does_not_change(self):
        floor = Floor(PAIRS, (((0, 1), (2, 3)), ((0, 2),)))
        calendar, tree, marked, record = state(floor)
        floor.regroup(0, ((0, 1),))
        floor.mark()
        self.assertEqual(calendar, Calendar((0,) * 4, ((2, 2), (2,))))
        self.assertEqual((tree, marked, record), ((((0, 1), (2, 3)), ((0, 2),)), (PAIRS, tree), ()))
        self.assertEqual(PAIRS, Calendar((0,) * 4, ((2, 2), (2,))))
        for part in (floor.tree(), floor.marked(), floor.record()):
            self.assertIs(part.__class__, tuple)

    def test_against_the_model(self):
        for calendar in FLOORS:
            for seed in range(6):
                tree = nth_tree(calendar, size(calendar) * seed // 6)
                self.assert_steps(calendar, tree, random_steps(calendar, tree, 150, seed))

    def assert_steps(self, calendar, tree, steps):
        floor, model = Floor(calendar, tree), Model(calendar, tree)
        for kind, *more in steps:
            wrong = model.step(kind, *more)
            if wrong is None:
                self.assertIsNone(getattr(floor, kind)(*more))
            else:
                self.refused(*wrong, getattr(floor, kind), *more)
            self.assertEqual(state(floor), model.now())
            self.assertEqual(made_calendar(floor.calendar().born, floor.calendar().days), floor.calendar())
            self.assertIs(is_tree(floor.calendar(), floor.tree()), True)
        passed = [model.now()]
        while model.step("undo") is None:
            floor.undo()
            passed.append(model.now())
            self.assertEqual(state(floor), model.now())
        self.assertEqual(state(floor), (calendar, tree, (calendar, tree), ()))
        for told in passed[-2::-1]:
            floor.redo()
            self.assertEqual(state(floor), told)

    def test_the_model_does_all_kinds_of_steps(self):
        done = {}
        for calendar in FLOORS:
            tree = nth_tree(calendar, 0)
            model = Model(calendar, tree)
            for kind, *more in random_steps(calendar, tree, 150, 0):
                before = model.now()[0]
                wrong = model.step(kind, *more)
                place = (kind, wrong is None)
                if kind == "regroup" and wrong is None:
                    place = (kind, before == model.now()[0])
                if kind == "regroup" and wrong and wrong[0] is BadRow:
                    place = (kind, "later" if wrong[1] > more[0] else "at once")
                done[place] = done.get(place, 0) + 1
        for kind, ways in (("change", (True, False)), ("undo", (True, False)), ("redo", (True, False)),
                           ("regroup", (True, False, "later", "at once"))):
            self.assertGreater(min(done[(kind, way)] for way in ways), 9, done)

    def test_refused_is_the_base(self):
        with self.assertRaises(Refused):
            Floor(plain(3), SMALL).undo()


if __name__ == "__main__":
    unittest.main()
