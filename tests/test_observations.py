"""Observations: point 11, and the section on observations.py."""

import itertools
import random
import unittest

from stickyheads.errors import InvalidNumberError, InvalidObservationsError, InvalidOutlineError
from stickyheads.observations import conflict, count_fitting, depth_bounds, fits
from stickyheads.views import top_line
from tests import plain, plain_observations
from tests.plain_observations import count_by_depths, first_pair, fitting, is_plain_fit, some_observations

EXAMPLE = plain.EXAMPLE


class ExampleTest(unittest.TestCase):
    def test_fits(self):
        found = [fits(EXAMPLE, [(1, 3), (3, 4)]), fits(EXAMPLE, [(2, 3)]), fits(EXAMPLE, [(6, 6)])]
        self.assertEqual(found, [True, False, False])

    def test_depth_bounds(self):
        expected = [(0, 0), (1, 1), (2, 2), (1, 2), (0, 1), (0, 2), (0, 3)]
        self.assertEqual(depth_bounds(7, [(1, 3), (3, 4)]), expected)

    def test_conflict(self):
        self.assertEqual(conflict(7, [(1, 4), (3, 4), (2, 3)]), (0, 2))
        self.assertEqual(conflict(7, [(0, 2), (1, 3)]), (0, 0))
        self.assertEqual(conflict(7, [(1, 3), (0, 2)]), (0, 1))
        self.assertIs(conflict(7, []), None)

    def test_count_fitting(self):
        self.assertEqual([count_fitting(7, [(1, 3), (3, 4)]), count_fitting(4, [])], [28, 14])


class FewLinesTest(unittest.TestCase):
    """Comparisons with all outlines of so many lines, one by one."""

    def compare(self, lines, observations):
        where = (lines, observations)
        outlines = fitting(lines, observations)
        self.assertEqual(count_fitting(lines, observations), len(outlines), where)
        self.assertEqual(depth_bounds(lines, observations), plain_observations.plain_bounds(lines, observations), where)
        self.assertEqual(conflict(lines, observations), plain_observations.plain_conflict(lines, observations), where)

    def test_no_observation(self):
        for lines in range(1, 9):
            self.compare(lines, [])
            self.assertEqual(depth_bounds(lines, []), [(0, line) for line in range(lines)])

    def test_one_observation(self):
        for lines in range(1, 8):
            for observation in itertools.product(range(lines + 2), repeat=2):
                self.compare(lines, [observation])

    def test_two_observations(self):
        for lines in range(1, 6):
            some = list(itertools.product(range(lines + 1), repeat=2))
            for observations in itertools.product(some, repeat=2):
                self.compare(lines, list(observations))

    def test_three_observations(self):
        for lines in (1, 2, 3):
            some = list(itertools.product(range(lines + 1), repeat=2))
            for observations in itertools.product(some, repeat=3):
                self.compare(lines, list(observations))

    def test_drawn_observations(self):
        for outline, observations, _ in some_observations(range(1000, 1250), 8):
            self.compare(len(outline), observations)

    def test_fits_each_outline(self):
        for lines in range(1, 6):
            some = list(itertools.product(range(lines + 2), repeat=2))
            lists = [[], *([one] for one in some), *([one, other] for one in some for other in some[:lines * 4])]
            for outline, observations in itertools.product(plain.all_outlines(lines), lists):
                self.assertIs(fits(outline, observations), is_plain_fit(outline, observations), (outline, observations))

    def test_fits_are_what_is_counted(self):
        for outline, observations, _ in some_observations(range(1250, 1290), 7):
            lines = len(outline)
            many = sum(fits(each, observations) for each in plain.all_outlines(lines))
            self.assertEqual(count_fitting(lines, observations), many, (lines, observations))


class ManyLinesTest(unittest.TestCase):
    def test_all_top_lines_of_an_outline(self):
        for outline in [*plain.middle_outlines(), *plain.large_outlines()]:
            tops = [(scroll, plain.plain_top(outline, scroll)) for scroll in plain.plain_scrolls(outline)]
            for first in range(0, len(tops), 40):
                self.assertIs(fits(outline, tops[first:first + 40]), True)
            for scroll, line in tops:
                for wrong in ((scroll, line + 1), (scroll, line - 1), (len(tops), line), (10 ** 30, line)):
                    if wrong[1] >= 0:
                        self.assertIs(fits(outline, [wrong]), is_plain_fit(outline, [wrong]), (outline, wrong))

    def test_drawn_observations_fit(self):
        for outline, observations, changed in some_observations(range(1300, 1500), 200):
            expected = is_plain_fit(outline, observations)
            self.assertIs(fits(outline, observations), expected, (outline, observations))
            self.assertTrue(expected or changed)

    def test_bounds_contain_the_outline(self):
        seen = 0
        for outline, observations, changed in some_observations(range(1500, 1800), 60):
            where = (outline, observations)
            bounds = depth_bounds(len(outline), observations)
            if fits(outline, observations):
                seen += 1
                self.assertEqual(len(bounds), len(outline))
                for depth, (least, greatest) in zip(outline, bounds):
                    self.assertLessEqual(least, depth, where)
                    self.assertLessEqual(depth, greatest, where)
                self.assertGreaterEqual(count_fitting(len(outline), observations), 1, where)
                self.assertIs(conflict(len(outline), observations), None, where)
            else:
                self.assertTrue(changed)
        self.assertGreater(seen, 100)

    def test_count_line_by_line(self):
        for outline, observations, _ in some_observations(range(1800, 1920), 60):
            lines = len(outline)
            expected = count_by_depths(lines, observations)
            self.assertEqual(count_fitting(lines, observations), expected, (lines, observations))
            self.assertEqual(depth_bounds(lines, observations) is None, expected == 0, (lines, observations))
            self.assertEqual(conflict(lines, observations) is None, expected > 0, (lines, observations))

    def test_bounds_depth_by_depth(self):
        for outline, observations, _ in some_observations(range(1920, 1960), 20):
            lines = len(outline)
            possible = [
                [depth for depth in range(line + 1) if count_by_depths(lines, observations, {line: depth})]
                for line in range(lines)
            ]
            expected = [plain.ends(depths) for depths in possible] if all(possible) else None
            self.assertEqual(depth_bounds(lines, observations), expected, (lines, observations))

    def test_least_conflict(self):
        conflicts = set()
        for outline, observations, _ in some_observations(range(1960, 2060), 60):
            lines = len(outline)
            found = conflict(lines, observations)
            if count_by_depths(lines, observations) == 0:
                expected = first_pair(observations, lambda some: count_by_depths(lines, some) == 0)
                self.assertEqual(found, expected, (lines, observations))
                conflicts.add(found[0] == found[1])
        self.assertEqual(conflicts, {False, True})

    def test_a_further_scroll_position_divides_the_count(self):
        for outline, observations, _ in some_observations(range(2060, 2100), 60):
            lines, few = len(outline), observations[:39]
            many = count_fitting(lines, few)
            bounds = depth_bounds(lines, few)
            if bounds is None:
                continue
            # These scroll positions are those of all outlines that fit.
            for scroll in range(lines - bounds[-1][1]):
                parts = [count_fitting(lines, [*few, (scroll, line)]) for line in range(lines)]
                self.assertEqual(sum(parts), many, (lines, few, scroll))

    def test_both_ends_of_the_bounds_can_be_reached_together(self):
        # The least stops of all lines are an outline that fits, and the greatest ones are, too.
        for outline, observations, _ in some_observations(range(2100, 2200), 60):
            bounds = depth_bounds(len(outline), observations)
            if bounds is not None:
                self.assertIs(fits([least for least, _ in bounds], observations), True)
                self.assertIs(fits([greatest for _, greatest in bounds], observations), True)


class EdgesTest(unittest.TestCase):
    def test_lines_that_there_are_not(self):
        for lines in (1, 2, 7, 60):
            for line in (lines, lines + 1, 60, 200, 10 ** 30):
                for scroll in (0, 1, lines - 1, 10 ** 30):
                    observations = [(0, 0), (scroll, line)]
                    self.assertIs(depth_bounds(lines, observations), None)
                    self.assertEqual(conflict(lines, observations), (0, 1))
                    self.assertEqual(conflict(lines, observations[::-1]), (0, 0))
                    self.assertEqual(count_fitting(lines, observations), 0)
                    self.assertIs(fits([0] * lines, observations), False)

    def test_scroll_positions_that_are_too_great(self):
        for lines in (1, 2, 7, 60):
            for scroll in (lines, lines + 1, 10 ** 30):
                for line in (0, lines - 1, lines):
                    observations = [(0, 0), (scroll, line)]
                    self.assertIs(depth_bounds(lines, observations), None)
                    self.assertEqual(conflict(lines, observations), (0, 1))
                    self.assertEqual(count_fitting(lines, observations), 0)
                    self.assertIs(fits([0] * lines, observations), False)

    def test_line_0(self):
        for lines in (1, 2, 7, 60):
            self.assertEqual(count_fitting(lines, [(0, 0)]), count_fitting(lines, []))
            self.assertEqual(depth_bounds(lines, [(0, 0)]), depth_bounds(lines, []))
            for observation in ((1, 0), (0, 1), (5, 0), (0, 5)):
                self.assertEqual(count_fitting(lines, [observation]), 0)
                self.assertEqual(conflict(lines, [observation]), (0, 0))

    def test_greatest_scroll_positions(self):
        for lines in (2, 3, 7, 60):
            flat = [(0, 0)] * lines
            self.assertEqual(depth_bounds(lines, [(line, line) for line in range(min(lines, 40))])[:40], flat[:40])
            self.assertEqual(depth_bounds(lines, [(lines - 1, lines - 1)])[-1], (0, 0))
            self.assertEqual(depth_bounds(lines, [(1, lines - 1)])[:-1], [(line, line) for line in range(lines - 1)])

    def test_one_observation_that_is_impossible_alone(self):
        possible, impossible = (1, 3), (4, 3)
        for at, many in itertools.product(range(6), range(1, 7)):
            if at < many:
                observations = [impossible if place == at else possible for place in range(many)]
                self.assertEqual(conflict(7, observations), (0, at), observations)
        contradictory = [(1, 4), (2, 3)]
        self.assertEqual(conflict(7, [(0, 0), *contradictory]), (1, 2))
        self.assertEqual(conflict(7, [(0, 0), *contradictory, impossible]), (0, 3))
        self.assertEqual(conflict(7, [(0, 0), (1, 4), impossible, (2, 3)]), (0, 2))
        self.assertEqual(conflict(7, [(2, 3), (0, 0), (1, 4), impossible]), (0, 2))
        self.assertEqual(conflict(7, [(2, 3), (0, 0), impossible, (1, 4)]), (0, 2))

    def test_forty_observations(self):
        self.assertEqual(conflict(7, [(1, 3)] * 39 + [(2, 2)]), (0, 39))
        self.assertEqual(conflict(7, [(0, 0)] * 38 + [(1, 3), (2, 2)]), (38, 39))
        self.assertEqual(conflict(7, [(0, 0)] * 39 + [(7, 7)]), (0, 39))
        self.assertIs(conflict(7, [(1, 3), (3, 4)] * 20), None)
        self.assertEqual(count_fitting(7, [(1, 3), (3, 4)] * 20), 28)

    def test_one_line(self):
        self.assertEqual(depth_bounds(1, []), [(0, 0)])
        self.assertEqual(count_fitting(1, [(0, 0)]), 1)
        self.assertIs(fits([0], [(0, 0), (0, 0)]), True)
        self.assertIs(fits([0], []), True)

    def test_sixty_lines(self):
        row = plain_observations.catalan_row(60)
        self.assertEqual(count_fitting(60, []), row[59])
        self.assertEqual(depth_bounds(60, []), [(0, line) for line in range(60)])

    def test_more_lines_than_sixty_fit(self):
        outline = plain.staircase(199) + [0]
        self.assertIs(fits(outline, [(1, 199), (199, 199)]), True)
        self.assertIs(fits(outline, [(1, 198)]), False)

    def test_kinds(self):
        source = random.Random(31)
        for outline, observations, _ in some_observations(range(2200, 2240), 30):
            lines = len(outline)
            self.assertIs(type(fits(outline, observations)), bool)
            self.assertIs(type(count_fitting(lines, observations)), int)
            bounds, pair = depth_bounds(lines, observations), conflict(lines, observations)
            self.assertEqual(bounds is None, pair is not None)
            for found in [pair] if bounds is None else bounds:
                self.assertIs(type(found), tuple)
                self.assertEqual([type(item) for item in found], [int, int])
            self.assertIn(bounds.__class__, (list, None.__class__))
            self.assertIs(top_line(outline, 0), 0)
            source.shuffle(observations)
            self.assertEqual(depth_bounds(lines, observations), bounds)


class ErrorsTest(unittest.TestCase):
    FUNCTIONS = ((fits, list(EXAMPLE)), (depth_bounds, 7), (conflict, 7), (count_fitting, 7))

    def test_index(self):
        for function, first in self.FUNCTIONS:
            for value, index in plain_observations.NO_OBSERVATIONS:
                with self.subTest(function=function.__name__, kind=type(value)):
                    with self.assertRaises(InvalidObservationsError) as caught:
                        function(first, value)
                    self.assertIs(type(caught.exception), InvalidObservationsError)
                    self.assertEqual(caught.exception.index, index)

    def test_the_first_item_counts(self):
        for function, first in self.FUNCTIONS:
            for index in range(40):
                observations = [(0, 0)] * 40
                observations[index] = (0, True)
                if index < 39:
                    observations[39] = None
                with self.assertRaises(InvalidObservationsError) as caught:
                    function(first, observations)
                self.assertEqual(caught.exception.index, index)

    def test_first_argument_comes_first(self):
        wrong = ([(0, True)], None, [(0, 0)] * 41)
        for function, _ in self.FUNCTIONS[1:]:
            for lines, observations in itertools.product((0, 61, -1, True, None, "7", 7.0, [7], 10 ** 30), wrong):
                with self.assertRaises(InvalidNumberError):
                    function(lines, observations)
        for outline, observations in itertools.product(([], [1], [0, True], None, 7), wrong):
            with self.assertRaises(InvalidOutlineError):
                fits(outline, observations)

    def test_bounds_of_lines(self):
        for function, _ in self.FUNCTIONS[1:]:
            for lines in (1, 2, 59, 60):
                function(lines, [])
            for lines in (0, -1, 61, 62, 200):
                with self.assertRaises(InvalidNumberError):
                    function(lines, [])

    def test_any_integers_from_0_on(self):
        for function, first in self.FUNCTIONS:
            for observation in itertools.product((0, 1, 7, 200, 10 ** 30), repeat=2):
                function(first, [observation] * 40)


if __name__ == "__main__":
    unittest.main()
