"""The general rules: tuples alone, the same for the same, nothing that is handed in is changed."""

import unittest

from datedlines.alive import alive, behind, ends
from datedlines.allcalendars import calendar_rank, calendars_count, nth_calendar
from datedlines.bare import bare, first_met, sisters, twins
from datedlines.boughs import ever_bough, first_bough, is_bough
from datedlines.calendarlooks import is_level, is_plain, plain, star
from datedlines.calendartext import calendar_of, calendar_text
from datedlines.calendars import Calendar, days_many, leaves_many, made_calendar, renamed
from datedlines.chains import chains, stirling
from datedlines.classes import class_of, unlike_days
from datedlines.cutlists import cuts_of
from datedlines.cuts import cut, placed
from datedlines.cutshares import cut_count, cut_share
from datedlines.datemeans import meeting_mean, pairs_mean, way_mean
from datedlines.dates import made_dates
from datedlines.deeds import changing, offers
from datedlines.depthcalendars import depth_calendar, depths_of
from datedlines.depthchances import bough_mean, depth_chances, depth_mean
from datedlines.depths import depth_rows, kraft, row_count
from datedlines.done import done
from datedlines.draws import drawn
from datedlines.families import together
from datedlines.floor import Floor
from datedlines.floorasks import can_go_home, kin, way_home
from datedlines.glue import glued
from datedlines.heads import headed, heads_many
from datedlines.histories import histories, next_tree
from datedlines.hooks import hooks, plain_histories
from datedlines.lengths import total_length
from datedlines.meetings import meeting, partners
from datedlines.nearest import balls, fewest
from datedlines.nthgroups import groups_rank, nth_groups
from datedlines.nthtree import nth_tree, tree_rank
from datedlines.numbers import size
from datedlines.ordered import made_ordered, nth_ordered, ordered_rank, ordered_size, plain_of
from datedlines.orderedwords import ordered_of_words, words_of
from datedlines.patterns import choose, is_pattern, less, met, patterns, ways
from datedlines.polynomials import poly_times, touched, whole
from datedlines.rests import bough_tree, rest, rest_tree
from datedlines.runs import run_between, walked
from datedlines.runsjudged import run_right
from datedlines.runtext import run_of, run_text
from datedlines.saysfloor import answer, asked
from datedlines.setlines import all_met, set_lines
from datedlines.shapes import made_wood, shape_of
from datedlines.shares import mean, minus, plus, share, times
from datedlines.shown import shown, shown_count
from datedlines.sides import apart_share, beside, unmixed, woven
from datedlines.spectrum import line_sizes, spectrum
from datedlines.tables import table_of
from datedlines.toldboughs import told_boughs, told_share
from datedlines.treelines import behind_lines, bough_of, lines
from datedlines.treelooks import renamed_tree
from datedlines.treeroads import depth, joints, met_on, path
from datedlines.trees import is_tree, made_tree
from datedlines.treetext import tree_of, tree_text
from datedlines.twosets import first_mix, two_sets
from datedlines.words import words
from datedlines.woodtext import wood_of, wood_text
from datedlines.wordtrees import wood_of_words

LATE = Calendar((0, 0, 1, 1, 2), ((2,), (2,), (3,)))
TREE = (((0, 1),), ((2, 3),), ((0, 2, 4),))
OTHER = (((0, 1),), ((0, 3),), ((0, 2, 4),))
DEED = ("change", 1, 0, 3)
FAMILY = ((2, 3), (0, 1))
DATES = ((10, 20, 30), (0, 10, 15, 20, 21))
WOOD = (((0, 1), (2, 3), 4),)
ORDERED = (((1, 0),), ((2, 3),), ((4, 0, 2),))
WEAVE = (0, 1, 0, 2)
SECOND = (((0, 1),), ((0, 2),))
TABLE = ((0, 2), (2,))
FLOOR = Floor(LATE, TREE)

NUMBERS = [
    (choose, dict(a=5, b=2)), (met, dict(pattern=(3, 2))), (less, dict(pattern=(3, 2))),
    (ways, dict(k=6, pattern=(3, 2))), (leaves_many, dict(calendar=LATE)), (days_many, dict(calendar=LATE)),
    (alive, dict(calendar=LATE, d=1)), (behind, dict(calendar=LATE, d=1)), (ends, dict(calendar=LATE)),
    (met_on, dict(calendar=LATE, tree=TREE, x=3, y=4)), (depth, dict(calendar=LATE, tree=TREE, x=3)),
    (size, dict(calendar=LATE)), (groups_rank, dict(names=(0, 1, 2), pattern=(2,), row=((0, 2),))),
    (tree_rank, dict(calendar=LATE, tree=TREE)), (heads_many, dict(calendar=LATE, d=2)),
    (unlike_days, dict(calendar=LATE, one=TREE, two=OTHER)), (fewest, dict(calendar=LATE, one=TREE, two=OTHER)),
    (told_boughs, dict(calendar=LATE, family=FAMILY)), (total_length, dict(calendar=LATE, dates=DATES)),
    (histories, dict(calendar=LATE, wood=WOOD)), (hooks, dict(wood=WOOD)), (plain_histories, dict(wood=((0, 1),))),
    (row_count, dict(n=5, r=2)), (ordered_size, dict(calendar=LATE)),
    (ordered_rank, dict(calendar=LATE, ordered=ORDERED)), (calendars_count, dict(k=5)),
    (calendar_rank, dict(calendar=plain(4))), (stirling, dict(k=5, j=2)), (chains, dict(k=5)),
    (unmixed, dict(calendar=LATE, some=(2, 3))),
    (cut_count, dict(calendar=LATE, some=(2, 3), small=plain(2), days=(1,))),
    (shown_count, dict(calendar=LATE, some=(0, 1, 4), table=TABLE)), (kin, dict(floor=FLOOR)),
]
ANSWERS = [
    (is_pattern, dict(thing=(2,))), (is_pattern, dict(thing=3)), (is_plain, dict(calendar=LATE)),
    (is_level, dict(calendar=plain(1))), (is_tree, dict(calendar=LATE, thing=TREE)),
    (is_tree, dict(calendar=LATE, thing=0)), (together, dict(calendar=LATE, tree=TREE, family=FAMILY)),
    (together, dict(calendar=LATE, tree=TREE, family=((0, 2),))),
    (run_right, dict(calendar=LATE, tree=TREE, run=(), goal=TREE)),
    (run_right, dict(calendar=LATE, tree=0, run=0, goal=0)), (can_go_home, dict(floor=FLOOR)),
]
TUPLES = [
    (share, dict(n=2, d=4)), (plus, dict(one=(1, 2), two=(1, 3))), (minus, dict(one=(1, 2), two=(1, 3))),
    (times, dict(one=(1, 2), two=(1, 3))), (mean, dict(shares=((1, 2), (1, 3)))), (patterns, dict(k=5)),
    (poly_times, dict(one=((0, 1, 2),), two=((1, 0, 3),))), (touched, dict(k=4, pattern=(2,))),
    (whole, dict(k=4, pattern=(2,))), (made_tree, dict(calendar=LATE, rows=TREE)),
    (lines, dict(calendar=LATE, tree=TREE, d=2)), (behind_lines, dict(calendar=LATE, tree=TREE, d=2)),
    (bough_of, dict(calendar=LATE, tree=TREE, d=2, x=2)), (joints, dict(calendar=LATE, tree=TREE)),
    (path, dict(calendar=LATE, tree=TREE, x=2)), (renamed_tree, dict(calendar=LATE, tree=TREE, places=(4, 3, 2, 1, 0))),
    (offers, dict(calendar=LATE, tree=TREE)), (changing, dict(calendar=LATE, tree=TREE)),
    (done, dict(calendar=LATE, tree=TREE, deed=DEED)), (walked, dict(calendar=LATE, tree=TREE, run=(DEED, DEED))),
    (run_between, dict(calendar=LATE, one=TREE, two=OTHER)), (nth_groups, dict(names=(0, 1, 2), pattern=(2,), k=1)),
    (nth_tree, dict(calendar=LATE, k=1)), (drawn, dict(calendar=LATE, digits=(4, 5))),
    (headed, dict(calendar=LATE, rows=TREE[:2])),
    (glued, dict(calendar=LATE, rows=TREE[:1], later=(((0, 1),), ((0, 2, 3),)))), (class_of, dict(calendar=LATE)),
    (balls, dict(calendar=LATE, tree=TREE)), (meeting, dict(calendar=LATE, x=3, y=1)),
    (partners, dict(calendar=LATE, d=1, x=3)), (set_lines, dict(calendar=LATE, some=(1, 2, 3), d=1)),
    (all_met, dict(calendar=LATE, some=(1, 2, 3))), (is_bough, dict(calendar=LATE, some=(2, 3), d=1)),
    (first_bough, dict(calendar=LATE, some=(2, 3))), (ever_bough, dict(calendar=LATE, some=(2, 3))),
    (bare, dict(calendar=LATE, d=1)), (first_met, dict(calendar=LATE, x=3)), (sisters, dict(calendar=LATE, x=3, y=2)),
    (twins, dict(calendar=LATE)), (bough_mean, dict(calendar=LATE, d=2, x=3)),
    (depth_chances, dict(calendar=LATE, x=3)), (depth_mean, dict(calendar=LATE, x=3)),
    (line_sizes, dict(calendar=LATE, d=1, x=3)), (spectrum, dict(calendar=LATE, d=1)),
    (two_sets, dict(calendar=LATE, one=(0, 2), two=(3,), d=1)), (first_mix, dict(calendar=LATE, one=(0, 2), two=(3,))),
    (told_share, dict(calendar=LATE, family=FAMILY)), (made_dates, dict(calendar=LATE, dates=DATES)),
    (meeting_mean, dict(calendar=LATE, dates=DATES, x=3, y=2)), (way_mean, dict(calendar=LATE, dates=DATES, x=3, y=2)),
    (pairs_mean, dict(calendar=LATE, dates=DATES)), (shape_of, dict(calendar=LATE, tree=TREE)),
    (made_wood, dict(n=5, thing=WOOD)), (next_tree, dict(calendar=LATE, wood=WOOD)),
    (kraft, dict(depths=(1, 2, 2), r=2)), (depth_rows, dict(n=5, r=2)),
    (rest_tree, dict(calendar=LATE, tree=TREE, d=1)), (bough_tree, dict(calendar=LATE, tree=TREE, d=3, x=1)),
    (depths_of, dict(calendar=LATE, tree=TREE)), (words, dict(calendar=LATE, tree=TREE)),
    (wood_of_words, dict(rows=((0, 1), (0, 0), (1,)))), (made_ordered, dict(calendar=LATE, rows=ORDERED)),
    (plain_of, dict(calendar=LATE, ordered=ORDERED)), (nth_ordered, dict(calendar=LATE, k=5)),
    (words_of, dict(calendar=LATE, ordered=ORDERED)),
    (ordered_of_words, dict(calendar=plain(2), rows=((0, 1), (0, 0)))),
    (beside, dict(one=LATE, first=TREE, two=plain(3), second=SECOND, row=WEAVE)),
    (apart_share, dict(one=LATE, two=plain(3), row=WEAVE)), (placed, dict(k=4, pattern=(2,), blocks=(2, 1))),
    (cut, dict(calendar=LATE, tree=TREE, some=(1, 2, 4))),
    (cut_share, dict(calendar=LATE, some=(2, 3), small=plain(2), days=(1,))),
    (cuts_of, dict(calendar=LATE, some=(2, 3, 4))), (table_of, dict(calendar=LATE, tree=TREE, some=(0, 1, 4))),
    (shown, dict(calendar=LATE, some=(0, 1, 4), table=TABLE)),
    (tree_of, dict(calendar=LATE, text="meet 0-1\nmeet 2-3\nmeet 0-2-4")), (wood_of, dict(n=3, text="(0,2) 1")),
    (run_of, dict(text="change 0 1 2")), (way_home, dict(floor=FLOOR)),
]
CALENDARS = [
    (made_calendar, dict(born=(0, 0), days=((2,),))), (renamed, dict(calendar=LATE, places=(1, 0, 2, 4, 3))),
    (plain, dict(n=3)), (star, dict(n=3)), (rest, dict(calendar=LATE, d=1)),
    (depth_calendar, dict(depths=(1, 2, 2), r=2)), (nth_calendar, dict(k=5, i=7)),
    (woven, dict(one=LATE, two=plain(3), row=WEAVE)), (calendar_of, dict(text="born 0 0\nday 2")),
]
TEXTS = [
    (calendar_text, dict(calendar=LATE)), (tree_text, dict(calendar=LATE, tree=TREE)),
    (wood_text, dict(n=5, wood=WOOD)), (run_text, dict(run=(DEED, DEED))), (answer, dict(floor=FLOOR, row="tree")),
    (asked, dict(floor=FLOOR, row="kin")),
]
ALL = NUMBERS + ANSWERS + TUPLES + CALENDARS + TEXTS


def parts(thing):
    """The thing and all that it is built from."""
    found = [thing]
    if isinstance(thing, Calendar):
        thing = (thing.born, thing.days)
    if isinstance(thing, (tuple, list)):
        for part in thing:
            found.extend(parts(part))
    return found


class GeneralTest(unittest.TestCase):
    def test_kinds_of_values(self):
        for kind, calls in ((int, NUMBERS), (bool, ANSWERS), (tuple, TUPLES), (Calendar, CALENDARS), (str, TEXTS)):
            for function, arguments in calls:
                found = function(**arguments)
                self.assertIs(found.__class__, kind, function)
                for part in parts(found):
                    self.assertIn(part.__class__, (kind, tuple, int, str, None.__class__, Calendar), function)

    def test_by_position_and_again(self):
        for function, arguments in ALL:
            found = function(**arguments)
            self.assertEqual(function(*arguments.values()), found)
            self.assertEqual(function(**arguments), found)

    def test_calendars_never_change(self):
        self.assertEqual((LATE.born, LATE.days), ((0, 0, 1, 1, 2), ((2,), (2,), (3,))))
        for function, arguments in ALL:
            function(**arguments)
        self.assertEqual((LATE.born, LATE.days), ((0, 0, 1, 1, 2), ((2,), (2,), (3,))))


if __name__ == "__main__":
    unittest.main()
