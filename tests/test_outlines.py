"""Outlines: points 2 and 5, and the section on outlines.py."""

import unittest

from stickyheads.outlines import children, headings, is_outline, section, stops
from tests import plain


class IsOutlineTest(unittest.TestCase):
    def test_examples(self):
        self.assertEqual([is_outline([0, 1, 2, 0]), is_outline([0, 2]), is_outline([1])], [True, False, False])

    def test_outlines(self):
        for outline in [*plain.small_outlines(7), *plain.middle_outlines(), *plain.large_outlines()]:
            self.assertIs(is_outline(outline), True, outline)

    def test_each_number_of_lines(self):
        for lines in range(1, 201):
            for outline in ([0] * lines, plain.staircase(lines), plain.teeth(lines, 5), plain.hill(lines)):
                self.assertIs(is_outline(outline), True, outline)

    def test_too_many_lines(self):
        for lines in range(201, 405):
            for depths in ([0] * lines, plain.staircase(lines), plain.teeth(lines, 5), plain.hill(lines)):
                self.assertIs(is_outline(depths), False, lines)

    def test_no_outlines(self):
        for value in plain.NO_OUTLINES:
            with self.subTest(kind=value.__class__):
                self.assertIs(is_outline(value), False)

    def test_lists_that_contain_themselves(self):
        first = []
        first.append(first)
        second = [0]
        second.append(second)
        self.assertIs(is_outline(first), False)
        self.assertIs(is_outline(second), False)

    def test_one_depth_changed(self):
        # A wrong depth must be found at each place, not only near the ends.
        for outline in plain.middle_outlines():
            for line in range(len(outline)):
                most = outline[line - 1] + 1 if line else 0
                for wrong in (-1, most + 1, bool(outline[line]), None, str(outline[line]), float(outline[line])):
                    self.assertIs(is_outline(outline[:line] + [wrong] + outline[line + 1:]), False, (line, wrong))

    def test_all_short_lists(self):
        outlines = plain.small_outlines(4)
        lists = [[]]
        for _ in range(4):
            lists = [[*depths, depth] for depths in lists for depth in range(-2, 6)]
            for depths in lists:
                self.assertIs(is_outline(depths), depths in outlines, depths)


class LineTest(unittest.TestCase):
    def test_examples(self):
        outline = [0, 1, 2, 2, 1, 0, 1]
        self.assertEqual(headings(outline, 3), [0, 1])
        self.assertEqual(section(outline, 1), (1, 3))
        self.assertEqual(children(outline, 0), [1, 4])
        self.assertEqual(stops(outline), [0, 0, 0, 1, 3, 5, 5])

    def test_each_line_of_the_example(self):
        outline = [0, 1, 2, 2, 1, 0, 1]
        lines = range(7)
        self.assertEqual([headings(outline, line) for line in lines], [[], [0], [0, 1], [0, 1], [0], [], [5]])
        self.assertEqual(
            [section(outline, line) for line in lines], [(0, 4), (1, 3), (2, 2), (3, 3), (4, 4), (5, 6), (6, 6)]
        )
        self.assertEqual([children(outline, line) for line in lines], [[1, 4], [2, 3], [], [], [], [6], []])

    def compare(self, outline):
        for line in range(len(outline)):
            self.assertEqual(headings(outline, line), plain.plain_headings(outline, line), (outline, line))
            self.assertEqual(section(outline, line), plain.plain_section(outline, line), (outline, line))
            self.assertEqual(children(outline, line), plain.plain_children(outline, line), (outline, line))
        self.assertEqual(stops(outline), plain.plain_stops(outline), outline)

    def test_small_outlines(self):
        for outline in plain.small_outlines(8):
            self.compare(outline)

    def test_greater_outlines(self):
        for outline in [*plain.middle_outlines(), *plain.large_outlines()]:
            self.compare(outline)

    def test_drawn_outlines(self):
        for seed in range(100, 220):
            self.compare(plain.drawn_outline(seed, seed % 37 + 5, seed % 8 + 1))

    def test_stops_never_decrease(self):
        for outline in [*plain.small_outlines(7), *plain.large_outlines()]:
            found = stops(outline)
            self.assertEqual(found, sorted(found), outline)

    def test_sections_hold_their_headings(self):
        for outline in plain.small_outlines(7):
            for line in range(len(outline)):
                around = [k for k in range(line) if section(outline, k)[1] >= line]
                self.assertEqual(headings(outline, line), around, (outline, line))


if __name__ == "__main__":
    unittest.main()
