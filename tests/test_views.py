"""Views: point 6, and the section on views.py."""

import unittest

from stickyheads.errors import TooDeepError
from stickyheads.views import scroll_to_show, scrolls_for, scrolls_for_both, shown_lines, top_line, view
from tests import plain


class ExampleTest(unittest.TestCase):
    def setUp(self):
        self.outline = [0, 1, 2, 2, 1, 0, 1]

    def test_top_line(self):
        self.assertEqual([top_line(self.outline, scroll) for scroll in range(6)], [0, 3, 4, 4, 5, 5])

    def test_view(self):
        self.assertEqual(
            [view(self.outline, 3, scroll) for scroll in range(6)],
            [[0, 1, 2], [0, 1, 3], [0, 1, 4], [0, 4, 5], [0, 5, 6], [5, 6]],
        )

    def test_shown_lines(self):
        self.assertEqual([shown_lines(self.outline, 3, 2), shown_lines(self.outline, 2, 2)], [(4, 4), None])

    def test_scrolls_for(self):
        self.assertEqual([scrolls_for(self.outline, 3, 4), scrolls_for(self.outline, 2, 2)], [(2, 3), None])

    def test_scroll_to_show(self):
        self.assertEqual([scroll_to_show(self.outline, 3, scroll, 4) for scroll in (0, 3, 5)], [2, 3, 3])

    def test_scrolls_for_both(self):
        self.assertEqual(
            [scrolls_for_both(self.outline, 4, 3, 4), scrolls_for_both(self.outline, 3, 3, 4)], [(1, 1), None]
        )

    def test_headings_fill_all_rows(self):
        self.assertEqual([view(self.outline, 2, scroll) for scroll in (0, 1, 2)], [[0, 1], [0, 1], [0, 1]])
        self.assertEqual([shown_lines(self.outline, 2, scroll) for scroll in (0, 1, 2)], [(0, 1), None, None])
        self.assertEqual([view(self.outline, 1, scroll) for scroll in range(6)], [[0], [0], [0], [0], [0], [5]])
        self.assertEqual([scrolls_for(self.outline, 1, line) for line in range(7)][1:5], [None] * 4)

    def test_one_line(self):
        for height in (1, 2, 400):
            self.assertEqual(top_line([0], 0), 0)
            self.assertEqual(view([0], height, 0), [0])
            self.assertEqual(shown_lines([0], height, 0), (0, 0))
            self.assertEqual(scrolls_for([0], height, 0), (0, 0))
            self.assertEqual(scroll_to_show([0], height, 0, 0), 0)
            self.assertEqual(scrolls_for_both([0], height, 0, 0), (0, 0))


class SearchTest(unittest.TestCase):
    """Comparisons with the plain search, row by row."""

    def compare_views(self, outline, heights):
        """Compare top lines, views and shown lines at all scroll positions, and where each line is shown."""
        searched = [plain.plain_rows(outline, scroll) for scroll in plain.plain_scrolls(outline)]
        for scroll in range(len(searched)):
            self.assertEqual(top_line(outline, scroll), plain.plain_top(outline, scroll), (outline, scroll))
        for height in heights:
            positions = [[] for _ in outline]
            for scroll, (rows, above) in enumerate(searched):
                where = (outline, height, scroll)
                shown = rows[above:height]
                self.assertEqual(view(outline, height, scroll), rows[:height], where)
                self.assertEqual(shown_lines(outline, height, scroll), plain.ends(shown), where)
                for line in shown:
                    positions[line].append(scroll)
            for line, scrolls in enumerate(positions):
                self.assertEqual(scrolls_for(outline, height, line), plain.ends(scrolls), (outline, height, line))

    def compare_nearest(self, outline, height, step=1):
        """Compare the scroll positions nearest to all scroll positions, for all lines or for some."""
        for line, scrolls in list(enumerate(plain.plain_positions(outline, height)))[::step]:
            for scroll in plain.plain_scrolls(outline):
                where = (outline, height, scroll, line)
                if scrolls:
                    nearest = min(scrolls, key=lambda position: abs(position - scroll))
                    self.assertEqual(scroll_to_show(outline, height, scroll, line), nearest, where)
                else:
                    with self.assertRaises(TooDeepError, msg=where) as caught:
                        scroll_to_show(outline, height, scroll, line)
                    self.assertEqual(caught.exception.line, line)

    def compare_pairs(self, outline, height, step=1):
        """Compare the scroll positions of all pairs of lines or of some, in both orders."""
        positions = [set(scrolls) for scrolls in plain.plain_positions(outline, height)]
        for line in range(0, len(outline), step):
            for other in range(line, len(outline)):
                both = plain.ends(positions[line] & positions[other])
                self.assertEqual(scrolls_for_both(outline, height, line, other), both, (outline, height, line, other))
                self.assertEqual(scrolls_for_both(outline, height, other, line), both, (outline, height, other, line))

    def test_small_outlines(self):
        for outline in plain.small_outlines(7):
            heights = [*range(1, len(outline) + 3), 400]
            self.compare_views(outline, heights)
            for height in heights:
                self.compare_nearest(outline, height)
                self.compare_pairs(outline, height)

    def test_views_of_middle_outlines(self):
        for outline in plain.middle_outlines():
            self.compare_views(outline, [*range(1, 70), 100, 200, 399, 400])

    def test_views_of_large_outlines(self):
        for outline in plain.large_outlines():
            self.compare_views(outline, [*range(1, 48, 3), 100, *range(198, 203), 399, 400])

    def test_views_with_all_heights(self):
        for outline in (plain.hill(200), plain.drawn_outline(8, 90, 5), plain.staircase(200), plain.teeth(70, 60)):
            self.compare_views(outline, range(1, 401))

    def test_views_of_drawn_outlines(self):
        for seed in range(300, 360):
            outline = plain.drawn_outline(seed, seed % 23 + 8, seed % 8 + 1)
            self.compare_views(outline, range(1, 36))

    def test_nearest_in_middle_outlines(self):
        for outline in plain.middle_outlines():
            for height in plain.SOME_HEIGHTS:
                self.compare_nearest(outline, height)

    def test_nearest_in_a_large_outline(self):
        for outline in (plain.drawn_outline(7, 200, 6), [0] * 200):
            for height in (1, 12, 199, 400):
                self.compare_nearest(outline, height, step=11)

    def test_pairs_in_middle_outlines(self):
        for outline in plain.middle_outlines():
            for height in plain.SOME_HEIGHTS:
                self.compare_pairs(outline, height)

    def test_pairs_in_large_outlines(self):
        for outline in plain.large_outlines():
            for height in (1, 2, 41, 42, 100, 199, 200, 201, 400):
                self.compare_pairs(outline, height, step=33)


if __name__ == "__main__":
    unittest.main()
