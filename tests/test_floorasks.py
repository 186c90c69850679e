import unittest

from datedlines.calendarlooks import plain
from datedlines.calendars import Calendar
from datedlines.errors import Unlike
from datedlines.floor import Floor
from datedlines.floorasks import can_go_home, kin, way_home
from datedlines.nthtree import nth_tree
from datedlines.numbers import size
from datedlines.runs import run_between, walked
from floormodel import Model, random_steps
from support import LATE, LATE_MANY, MIXED, PAIRS, PLAIN_TWELVE, SINGLE, TWO_LEFT, WIDE, Case, trees_of

SMALL = (((0, 1),), ((0, 2),))


class FloorAsksTest(Case):
    def test_home(self):
        floor = Floor(plain(3), SMALL)
        self.assertIs(can_go_home(floor), True)
        self.assertEqual(way_home(floor), ())
        self.assertEqual(kin(floor), 3)
        floor.change(0, 1, 2)
        self.assertIs(can_go_home(floor), True)
        self.assertEqual(way_home(floor), (("change", 0, 1, 2),))
        floor.mark()
        self.assertEqual(way_home(floor), ())

    def test_away(self):
        # The last row is made one of three lines, which are alive then, once two groups are one.
        floor = Floor(PAIRS, (((0, 1), (2, 3)), ((0, 2),)))
        floor.regroup(0, ((0, 1),))
        self.assertIs(can_go_home(floor), False)
        self.refused(Unlike, 0, way_home, floor)
        self.assertEqual(kin(floor), 18)
        floor.regroup(1, ((0, 2, 3),))
        self.refused(Unlike, 0, way_home, floor)
        self.assertEqual(kin(floor), 6)
        floor.mark()
        self.assertIs(can_go_home(floor), True)
        floor.regroup(1, ((0, 2),))
        self.refused(Unlike, 1, way_home, floor)
        floor.undo()
        self.assertEqual(way_home(floor), ())
        floor.undo()
        self.refused(Unlike, 0, way_home, floor)

    def test_home_by_another_way(self):
        # The patterns alone count, not how they came about.
        floor = Floor(PAIRS, (((0, 1), (2, 3)), ((0, 2),)))
        floor.regroup(0, ((0, 1),))
        floor.regroup(0, ((0, 1), (2, 3)))
        self.assertIs(can_go_home(floor), True)
        self.assertEqual(way_home(floor), ())

    def test_edges(self):
        floor = Floor(SINGLE, ())
        self.assertIs(can_go_home(floor), True)
        self.assertEqual((way_home(floor), kin(floor)), ((), 1))
        self.assertEqual(kin(Floor(PLAIN_TWELVE, nth_tree(PLAIN_TWELVE, 0))), 9336040560000)

    def test_against_the_model(self):
        seen = set()
        for calendar in (plain(3), plain(4), LATE, PAIRS, TWO_LEFT, MIXED, WIDE, PLAIN_TWELVE, LATE_MANY, SINGLE):
            for seed in range(3):
                first = nth_tree(calendar, size(calendar) * seed // 3)
                floor, model = Floor(calendar, first), Model(calendar, first)
                for kind, *more in random_steps(calendar, first, 100, seed):
                    if model.step(kind, *more) is None:
                        getattr(floor, kind)(*more)
                    seen.add(self.assert_asked(floor, *model.now()[:3]))
        self.assertEqual(seen, {None, 0, 1, 2} | seen)

    def assert_asked(self, floor, calendar, tree, home):
        """Ask the floor all it can be asked; return the first unlike day, None if there is none."""
        unlike = [d for d, pattern in enumerate(calendar.days) if pattern != home[0].days[d]]
        self.assertIs(can_go_home(floor), not unlike)
        self.assertEqual(kin(floor), size(calendar))
        if unlike:
            self.refused(Unlike, unlike[0], way_home, floor)
            return unlike[0]
        self.assertEqual(way_home(floor), run_between(calendar, tree, home[1]))
        self.assertEqual(walked(calendar, tree, way_home(floor)), home[1])
        return None

    def test_kin_against_a_listing(self):
        for calendar in (plain(4), LATE, PAIRS, TWO_LEFT, Calendar((0, 0), ())):
            for tree in trees_of(calendar):
                self.assertEqual(kin(Floor(calendar, tree)), len(trees_of(calendar)))

    def test_asking_changes_nothing(self):
        floor = Floor(plain(3), SMALL)
        floor.change(0, 1, 2)
        floor.undo()
        for function in (can_go_home, way_home, kin):
            function(floor)
        floor.redo()
        self.assertEqual(floor.record(), (("change", 0, 1, 2),))


if __name__ == "__main__":
    unittest.main()
