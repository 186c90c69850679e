"""Each name of the interface stands in its file, with its arguments."""

import ast
import importlib
import inspect
import os
import unittest

PACKAGE = os.path.join(os.path.dirname(os.path.dirname(os.path.abspath(__file__))), "datedlines")

INTERFACE = """
shares: share(n, d) plus(one, two) minus(one, two) times(one, two) mean(shares)
patterns: choose(a, b) is_pattern(thing) patterns(k) met(pattern) less(pattern) ways(k, pattern)
polynomials: poly_times(one, two) touched(k, pattern) whole(k, pattern)
calendars: made_calendar(born, days) leaves_many(calendar) days_many(calendar) renamed(calendar, places)
alive: alive(calendar, d) behind(calendar, d) ends(calendar)
calendarlooks: is_plain(calendar) is_level(calendar) plain(n) star(n)
trees: made_tree(calendar, rows) is_tree(calendar, thing)
treelines: lines(calendar, tree, d) behind_lines(calendar, tree, d) bough_of(calendar, tree, d, x)
treeroads: met_on(calendar, tree, x, y) joints(calendar, tree) depth(calendar, tree, x) path(calendar, tree, x)
treelooks: renamed_tree(calendar, tree, places)
deeds: offers(calendar, tree) changing(calendar, tree)
done: done(calendar, tree, deed)
runs: walked(calendar, tree, run) run_between(calendar, one, two)
runsjudged: run_right(calendar, tree, run, goal)
numbers: size(calendar)
nthgroups: nth_groups(names, pattern, k) groups_rank(names, pattern, row)
nthtree: nth_tree(calendar, k) tree_rank(calendar, tree)
draws: drawn(calendar, digits)
heads: headed(calendar, rows) heads_many(calendar, d)
glue: glued(calendar, rows, later)
classes: class_of(calendar) unlike_days(calendar, one, two)
nearest: fewest(calendar, one, two) balls(calendar, tree)
meetings: meeting(calendar, x, y) partners(calendar, d, x)
setlines: set_lines(calendar, some, d) all_met(calendar, some)
boughs: is_bough(calendar, some, d) first_bough(calendar, some) ever_bough(calendar, some)
bare: bare(calendar, d) first_met(calendar, x) sisters(calendar, x, y) twins(calendar)
depthchances: bough_mean(calendar, d, x) depth_chances(calendar, x) depth_mean(calendar, x)
spectrum: line_sizes(calendar, d, x) spectrum(calendar, d)
twosets: two_sets(calendar, one, two, d) first_mix(calendar, one, two)
families: together(calendar, tree, family)
toldboughs: told_boughs(calendar, family) told_share(calendar, family)
dates: made_dates(calendar, dates)
datemeans: meeting_mean(calendar, dates, x, y) way_mean(calendar, dates, x, y) pairs_mean(calendar, dates)
lengths: total_length(calendar, dates)
shapes: shape_of(calendar, tree) made_wood(n, thing)
histories: histories(calendar, wood) next_tree(calendar, wood)
hooks: hooks(wood) plain_histories(wood)
depths: kraft(depths, r) depth_rows(n, r) row_count(n, r)
depthcalendars: depth_calendar(depths, r) depths_of(calendar, tree)
words: words(calendar, tree)
wordtrees: wood_of_words(rows)
ordered: made_ordered(calendar, rows) plain_of(calendar, ordered) ordered_rank(calendar, ordered)
ordered: ordered_size(calendar) nth_ordered(calendar, k)
orderedwords: words_of(calendar, ordered) ordered_of_words(calendar, rows)
allcalendars: calendars_count(k) nth_calendar(k, i) calendar_rank(calendar)
chains: stirling(k, j) chains(k)
sides: woven(one, two, row) beside(one, first, two, second, row) apart_share(one, two, row) unmixed(calendar, some)
rests: rest(calendar, d) rest_tree(calendar, tree, d) bough_tree(calendar, tree, d, x)
cuts: placed(k, pattern, blocks) cut(calendar, tree, some)
cutshares: cut_share(calendar, some, small, days) cut_count(calendar, some, small, days)
cutlists: cuts_of(calendar, some)
tables: table_of(calendar, tree, some)
shown: shown(calendar, some, table) shown_count(calendar, some, table)
calendartext: calendar_text(calendar) calendar_of(text)
treetext: tree_text(calendar, tree) tree_of(calendar, text)
woodtext: wood_text(n, wood) wood_of(n, text)
runtext: run_text(run) run_of(text)
floorasks: can_go_home(floor) way_home(floor) kin(floor)
saysfloor: answer(floor, row) asked(floor, row)
"""

FLOOR = {
    "__init__": ["self", "calendar", "tree"], "change": ["self", "d", "a", "b"], "regroup": ["self", "d", "row"],
    "mark": ["self"], "undo": ["self"], "redo": ["self"], "calendar": ["self"], "tree": ["self"], "marked": ["self"],
    "record": ["self"],
}


def listed():
    """The triples (file, function, arguments) of the interface."""
    found = []
    for row in INTERFACE.strip().split("\n"):
        file, functions = row.split(": ")
        for function in functions.replace(") ", ")\n").split("\n"):
            name, arguments = function.rstrip(")").split("(")
            found.append((file, name, arguments.split(", ")))
    return found


class InterfaceTest(unittest.TestCase):
    def test_functions_have_their_arguments(self):
        for file, name, arguments in listed():
            function = getattr(importlib.import_module("datedlines." + file), name)
            parameters = inspect.signature(function).parameters
            self.assertEqual(list(parameters), arguments, name)
            for parameter in parameters.values():
                self.assertIs(parameter.kind, inspect.Parameter.POSITIONAL_OR_KEYWORD)
                self.assertIs(parameter.default, inspect.Parameter.empty)

    def test_functions_are_defined_in_their_files(self):
        for file, name, _ in listed():
            with open(os.path.join(PACKAGE, file + ".py")) as source:
                body = ast.parse(source.read()).body
            self.assertIn(name, [part.name for part in body if isinstance(part, ast.FunctionDef)])

    def test_the_floor_has_its_own_methods(self):
        floor = importlib.import_module("datedlines.floor").Floor
        self.assertEqual(floor.__module__, "datedlines.floor")
        for name, arguments in FLOOR.items():
            self.assertEqual(list(inspect.signature(vars(floor)[name]).parameters), arguments, name)

    def test_the_calendar_has_its_own_methods(self):
        calendars = importlib.import_module("datedlines.calendars")
        self.assertIn("__eq__", vars(calendars.Calendar))


if __name__ == "__main__":
    unittest.main()
