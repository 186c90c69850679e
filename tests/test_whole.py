"""What the document promises over the whole program: what its modules tell of one calendar agrees."""

import unittest
from fractions import Fraction
from itertools import combinations
from time import perf_counter

from datedlines.alive import alive, behind, ends
from datedlines.allcalendars import calendar_rank, calendars_count, nth_calendar
from datedlines.bare import bare, first_met, sisters, twins
from datedlines.boughs import ever_bough, first_bough, is_bough
from datedlines.calendarlooks import is_level, is_plain, plain
from datedlines.calendars import Calendar
from datedlines.calendartext import calendar_of, calendar_text
from datedlines.chains import chains
from datedlines.classes import class_of
from datedlines.cutlists import cuts_of
from datedlines.cuts import cut, placed
from datedlines.cutshares import cut_count, cut_share
from datedlines.datemeans import meeting_mean, pairs_mean, way_mean
from datedlines.deeds import changing, offers
from datedlines.depthcalendars import depth_calendar, depths_of
from datedlines.depthchances import bough_mean, depth_chances, depth_mean
from datedlines.depths import depth_rows, kraft, row_count
from datedlines.done import done
from datedlines.floor import Floor
from datedlines.floorasks import can_go_home, kin, way_home
from datedlines.heads import headed, heads_many
from datedlines.histories import histories, next_tree
from datedlines.hooks import plain_histories
from datedlines.lengths import total_length
from datedlines.meetings import meeting, partners
from datedlines.nthtree import nth_tree, tree_rank
from datedlines.numbers import size
from datedlines.ordered import nth_ordered, ordered_rank, ordered_size, plain_of
from datedlines.orderedwords import ordered_of_words, words_of
from datedlines.patterns import choose, patterns
from datedlines.polynomials import touched, whole
from datedlines.rests import bough_tree, rest, rest_tree
from datedlines.runs import run_between, walked
from datedlines.runsjudged import run_right
from datedlines.runtext import run_of, run_text
from datedlines.saysfloor import answer, asked
from datedlines.setlines import all_met, set_lines
from datedlines.shapes import made_wood, shape_of
from datedlines.shown import shown, shown_count
from datedlines.sides import apart_share, beside, unmixed, woven
from datedlines.spectrum import line_sizes, spectrum
from datedlines.tables import table_of
from datedlines.toldboughs import told_boughs, told_share
from datedlines.treelines import lines
from datedlines.treeroads import joints, met_on
from datedlines.treetext import tree_of, tree_text
from datedlines.trees import is_tree
from datedlines.twosets import first_mix, two_sets
from datedlines.woodtext import wood_of, wood_text
from datedlines.words import words
from datedlines.wordtrees import wood_of_words
from support import (LATE, LATE_MANY, LATE_TWELVE, MIXED, PAIRS, PLAIN_TWELVE, SINGLE, TWO_LEFT, WIDE, Case, dates_of,
                     small_calendars, trees_of)

SMALL = small_calendars(4, 2)[::3] + small_calendars(4, 3)[::19] + [LATE, TWO_LEFT, PAIRS, SINGLE, plain(4), plain(5)]
LARGE = [PLAIN_TWELVE, LATE_TWELVE, LATE_MANY, WIDE, MIXED]


def leaves_of(calendar):
    return tuple(range(len(calendar.born)))


def total(pairs):
    return sum(Fraction(*chance) for _, chance in pairs)


def mean_of(pairs):
    return sum(number * Fraction(*chance) for number, chance in pairs)


class TreesAgreeTest(Case):
    def test_trees_and_numbers(self):
        for calendar in SMALL:
            trees = trees_of(calendar)
            self.assertEqual(size(calendar), len(trees))
            self.assertEqual(class_of(calendar), trees)
            self.assertEqual([nth_tree(calendar, k) for k in range(len(trees))], list(trees))
            self.assertEqual([tree_rank(calendar, tree) for tree in trees], list(range(len(trees))))
            self.assertEqual(size(calendar), heads_many(calendar, len(calendar.days)))
            self.assertEqual(kin(Floor(calendar, trees[0])), len(trees))

    def test_each_tree_in_all_its_forms(self):
        for calendar in SMALL + LARGE:
            many = size(calendar)
            for k in range(0, many, many // 9 + 1):
                self.assert_forms(calendar, nth_tree(calendar, k), k)

    def assert_forms(self, calendar, tree, k):
        n = len(calendar.born)
        self.assertIs(is_tree(calendar, tree), True)
        self.assertEqual(tree_of(calendar_of(calendar_text(calendar)), tree_text(calendar, tree)), tree)
        self.assertEqual(headed(calendar, tree), (k, 1))
        wood = shape_of(calendar, tree)
        self.assertIs(made_wood(n, wood), wood)
        self.assertEqual(wood_of(n, wood_text(n, wood)), wood)
        self.assertEqual(wood_of_words(words(calendar, tree)), wood)
        self.assertEqual(len(wood), ends(calendar))
        self.assertLessEqual(next_tree(calendar, wood), tree)
        self.assertEqual(tuple(len(word) - 1 for word in words(calendar, tree)), depths_of(calendar, tree))
        everything = (calendar, tree, tuple(range(len(tree))))
        self.assertEqual(cut(calendar, tree, leaves_of(calendar)), everything)
        if n > 1:
            table = table_of(calendar, tree, leaves_of(calendar))
            self.assertEqual(shown(calendar, leaves_of(calendar), table), everything)
            self.assertEqual(shown_count(calendar, leaves_of(calendar), table), 1)
        self.assertEqual(rest_tree(calendar, tree, 0), rest_tree(rest(calendar, 0), rest_tree(calendar, tree, 0), 0))
        if ends(calendar) == 1:
            self.assertEqual(bough_tree(calendar, tree, len(tree), n - 1), (calendar, tree))
        ordered = nth_ordered(calendar, k * (ordered_size(calendar) // size(calendar)))
        self.assertEqual(ordered, tree)
        self.assertEqual(words_of(calendar, tree), words(calendar, tree))

    def test_woods(self):
        for calendar in SMALL:
            found = {}
            for tree in trees_of(calendar):
                found.setdefault(wood_text(len(calendar.born), shape_of(calendar, tree)), []).append(tree)
            for text, trees in found.items():
                wood = wood_of(len(calendar.born), text)
                self.assertEqual(histories(calendar, wood), len(trees))
                self.assertEqual(next_tree(calendar, wood), trees[0])
                if is_plain(calendar):
                    self.assertEqual(plain_histories(wood), len(trees))

    def test_runs_changes_and_floors(self):
        for calendar in SMALL + LARGE:
            many = size(calendar)
            for k in range(0, many, many // 5 + 1):
                one, two = nth_tree(calendar, k), nth_tree(calendar, (k * 7 + 3) % many)
                run = run_between(calendar, one, two)
                self.assertLessEqual(len(run), sum(map(sum, calendar.days)))
                self.assertEqual(walked(calendar, one, run), two)
                self.assertIs(run_right(calendar, one, run_of(run_text(run)), two), True)
                self.assert_floor(calendar, one, two, run)
                for deed in offers(calendar, one)[::7]:
                    after = done(calendar, one, deed)
                    self.assertEqual(done(calendar, after, deed), one)
                    self.assertIs(deed in changing(calendar, one), after != one)

    def assert_floor(self, calendar, one, two, run):
        floor, told = Floor(calendar, two), Floor(calendar, two)
        for deed in run_between(calendar, two, one):
            floor.change(*deed[1:])
            self.assertEqual(answer(told, run_text((deed,))), "ok")
        self.assertEqual(floor.tree(), one)
        self.assertEqual(answer(told, "tree"), tree_text(calendar, one).replace("\n", ";"))
        self.assertEqual(floor.record(), told.record())
        self.assertIs(can_go_home(floor), True)
        self.assertEqual(way_home(floor), run)
        self.assertEqual(asked(told, "way"), run_text(run).replace("\n", ";"))
        self.assertEqual(asked(told, "kin"), str(size(calendar)))

    def test_level_calendars(self):
        for r in (2, 3, 4):
            for n in range(1, 13):
                self.assertEqual(row_count(n, r), len(depth_rows(n, r)))
                for depths in depth_rows(n, r):
                    calendar = depth_calendar(depths, r)
                    self.assertIs(is_level(calendar), True)
                    self.assertEqual(kraft(depths, r), (1, 1))
                    ordered = nth_ordered(calendar, ordered_size(calendar) // 3)
                    self.assertEqual(ordered_of_words(calendar, words_of(calendar, ordered)), ordered)
                    self.assertEqual(depths_of(calendar, plain_of(calendar, ordered)), depths)

    def test_calendars(self):
        for k in range(1, 8):
            found = [nth_calendar(k, i) for i in range(calendars_count(k))]
            self.assertEqual([calendar_rank(calendar) for calendar in found], list(range(len(found))))
            self.assertEqual(sum(size(calendar) for calendar in found), chains(k))
            for calendar in found:
                self.assertEqual(calendar_of(calendar_text(calendar)), calendar)


class ChancesAgreeTest(Case):
    def test_two_leaves(self):
        for calendar in SMALL + LARGE:
            for x, y in combinations(leaves_of(calendar), 2):
                chances = meeting(calendar, x, y)
                self.assertEqual(total(chances), 1)
                self.assertEqual(all_met(calendar, (x, y)), chances)
                self.assertEqual(first_mix(calendar, (x,), (y,)), chances)
                never = len(calendar.days)
                found = {days: chance for _, days, chance in cuts_of(calendar, (x, y))}
                self.assertEqual(found, {(d,) if d < never else (): chance for d, chance in chances})
                self.assertEqual(told_share(calendar, ((x, y),)), ever_bough(calendar, (x, y)))
                self.assertLessEqual(Fraction(*sisters(calendar, x, y)), Fraction(*ever_bough(calendar, (x, y))))
                self.assertEqual(total(first_bough(calendar, (x, y))), Fraction(*ever_bough(calendar, (x, y))))

    def test_sets_and_lines(self):
        for calendar in SMALL + LARGE:
            leaves = leaves_of(calendar)
            for d in range(len(calendar.days)):
                early = tuple(x for x in leaves if calendar.born[x] <= d)
                self.assertEqual(set_lines(calendar, leaves, d), ((behind(calendar, d), (1, 1)),))
                self.assertEqual(two_sets(calendar, early[:1], early[1:2], d),
                                 self.of_two(set_lines(calendar, early[:2], d)))
                found = [Fraction(*one) for one in spectrum(calendar, d)]
                self.assertEqual(sum(found), behind(calendar, d))
                self.assertEqual(sum(i * one for i, one in enumerate(found, 1)), len(early))
                self.assertEqual(mean_of(bare(calendar, d)), found[0])
                self.assertEqual(sum(total(tuple(line_sizes(calendar, d, x))) for x in early), len(early))
                sizes = [dict(line_sizes(calendar, d, x)).get(1, (0, 1)) for x in early]
                self.assertEqual(sum(Fraction(*one) for one in sizes), found[0])
                self.assertEqual(is_bough(calendar, early[-1:], d), sizes[-1])

    def of_two(self, pairs):
        """The pairs of two_sets for two single leaves, from those of the set of both."""
        return tuple(((0, 0, 1) if j == 1 else (1, 1, 0), chance) for j, chance in pairs)

    def test_depths_and_means(self):
        for calendar in SMALL + LARGE:
            last = len(calendar.days)
            for x in leaves_of(calendar):
                self.assertEqual(total(depth_chances(calendar, x)), 1)
                self.assertEqual(mean_of(depth_chances(calendar, x)), Fraction(*depth_mean(calendar, x)))
                self.assertEqual(total(first_met(calendar, x)), 1)
                joined = [partners(calendar, d, x) for d in range(calendar.born[x], last)]
                self.assertEqual(sum(Fraction(*one) for one in joined), Fraction(*depth_mean(calendar, x)))
                if ends(calendar) == 1:
                    self.assertEqual(bough_mean(calendar, last, x), (len(calendar.born), 1))

    def test_means_over_listed_trees(self):
        for calendar in SMALL:
            trees = trees_of(calendar)
            depths = [depths_of(calendar, tree) for tree in trees]
            for x in leaves_of(calendar):
                told = Fraction(sum(row[x] for row in depths), len(trees))
                self.assertEqual(told, Fraction(*depth_mean(calendar, x)))
            pairs = [group for tree in trees for _, group, leaves in joints(calendar, tree) if len(leaves) == 2]
            self.assertEqual(Fraction(len(pairs), len(trees)), Fraction(*twins(calendar)))

    def test_dates(self):
        for calendar in SMALL:
            dates = dates_of(calendar, -3)
            for x, y in combinations(leaves_of(calendar), 2):
                days = [met_on(calendar, tree, x, y) for tree in trees_of(calendar)]
                at = [dates[0][d] for d in days if d is not None]
                found = meeting_mean(calendar, dates, x, y)
                self.assertEqual(found is None, not at)
                if at:
                    self.assertEqual(Fraction(*found), Fraction(sum(at), len(at)))
                    way = Fraction(*way_mean(calendar, dates, x, y))
                    self.assertEqual(way, 2 * Fraction(*found) - dates[1][x] - dates[1][y])

    def test_cuts_and_unmixed(self):
        for calendar in SMALL + LARGE:
            leaves = leaves_of(calendar)
            self.assertEqual(unmixed(calendar, leaves), size(calendar))
            for some in (leaves[:3], leaves[1:4], leaves[-2:]):
                if len(some) > 1:
                    found = cuts_of(calendar, some)
                    self.assertEqual(sum(Fraction(*chance) for _, _, chance in found), 1)
                    never = len(calendar.days)
                    met_by = {d: Fraction(*chance) for d, chance in all_met(calendar, some)}
                    last = {}
                    for taken, days, chance in found:
                        one_line = len(some) == 1 + sum(map(sum, taken)) - sum(map(len, taken))
                        d = days[-1] if one_line else never
                        last[d] = last.get(d, 0) + Fraction(*chance)
                    self.assertEqual(last, met_by)

    def test_days(self):
        for k in range(13):
            for pattern in patterns(k)[::3]:
                for polynomial in (touched(k, pattern), whole(k, pattern)):
                    found = sum(number for i, _, number in polynomial if i == k)
                    self.assertEqual(found, 1)
                # Two lines come into one group, or each of them stands by itself behind the day.
                apart = Fraction(*placed(k, pattern, (1, 1)))
                self.assertEqual(apart + Fraction(*placed(k, pattern, (2,))), 1)
                for i, j, number in whole(k, pattern):
                    self.assertLessEqual(number, choose(k, i))
                    self.assertLessEqual(j, i)

    def test_sides(self):
        one, two = plain(4), Calendar((0, 0, 1), ((2,), (2,)))
        row = (0, 2, 1, 0)
        both = woven(one, two, row)
        found = {beside(one, first, two, second, row) for first in trees_of(one) for second in trees_of(two)}
        self.assertEqual(len(found), size(one) * size(two))
        self.assertEqual(Fraction(*apart_share(one, two, row)), Fraction(len(found), size(both)))
        self.assertLessEqual(len(found), unmixed(both, leaves_of(one)))
        for tree in found:
            small, left, days = cut(both, tree, leaves_of(one))
            self.assertEqual((small, days), (one, (0, 1, 3)))
            self.assertEqual(cut_count(both, leaves_of(one), small, days) * size(small),
                             Fraction(*cut_share(both, leaves_of(one), small, days)) * size(both))
            self.assertIn(left, trees_of(one))


class TimeTest(Case):
    """Twelve leaves and eleven days take no long time."""

    def test_counting(self):
        for calendar in LARGE:
            before = perf_counter()
            leaves = leaves_of(calendar)
            half = leaves[:len(leaves) // 2]
            other = leaves[len(leaves) // 2:]
            last = len(calendar.days) - 1
            tree = nth_tree(calendar, size(calendar) - 1)
            told_boughs(calendar, (half[:2], half, other[:3], other))
            two_sets(calendar, half, other, last)
            first_mix(calendar, half, other)
            spectrum(calendar, last)
            line_sizes(calendar, last, 0)
            bare(calendar, last)
            unmixed(calendar, half)
            cuts_of(calendar, half[:4])
            cut_share(calendar, half, *cut(calendar, tree, half)[::2])
            histories(calendar, shape_of(calendar, tree))
            ordered_rank(calendar, nth_ordered(calendar, ordered_size(calendar) - 1))
            pairs_mean(calendar, dates_of(calendar, 0))
            total_length(calendar, dates_of(calendar, 0))
            shown_count(calendar, leaves, table_of(calendar, tree, leaves))
            run_between(calendar, tree, nth_tree(calendar, 0))
            self.assertEqual(alive(calendar, 0), len(lines(calendar, tree, 0)))
            self.assertLess(perf_counter() - before, 5)

    def test_the_worst_that_is_counted(self):
        # No pattern is cut short by few lines, so all that can be told apart is.
        before = perf_counter()
        calendar = Calendar((0,) * 12, ((2, 2),) * 5 + ((2,),))
        wood = (((((0, 1), (2, 3)), ((4, 5), (6, 7))), ((8, 9), (10, 11))),)
        self.assertGreaterEqual(histories(calendar, wood), 0)
        self.assertGreater(histories(PLAIN_TWELVE, wood), 0)
        self.assertGreater(told_boughs(PLAIN_TWELVE, ((0, 1, 2), (3, 4, 5), (6, 7, 8), (9, 10, 11))), 0)
        self.assertEqual(row_count(12, 2), len(depth_rows(12, 2)))
        self.assertGreater(calendars_count(12), 10000)
        self.assertGreater(chains(12), 10 ** 14)
        nth_calendar(12, calendars_count(12) // 2)
        self.assertLess(perf_counter() - before, 5)


if __name__ == "__main__":
    unittest.main()
