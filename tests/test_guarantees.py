"""The guarantees of point 4 that speak of outlines, views and scroll positions."""

import unittest

from stickyheads.outlines import headings
from stickyheads.views import scrolls_for, shown_lines, view
from tests import plain


def heights_for(outline):
    lines = len(outline)
    if lines < 8:
        return [*range(1, lines + 3), 400]
    return sorted({*plain.SOME_HEIGHTS, max(outline), max(outline) + 1, max(outline) + 2} - {0, 401})


def shown_at(outline, height, scroll):
    found = shown_lines(outline, height, scroll)
    return [] if found is None else list(range(found[0], found[1] + 1))


class GuaranteesTest(unittest.TestCase):
    def outlines(self):
        drawn = [plain.drawn_outline(seed, seed % 31 + 8, seed % 8 + 1) for seed in range(500, 540)]
        return [*plain.small_outlines(7), *plain.middle_outlines(), *plain.large_outlines(), *drawn]

    def test_shown_lines_have_all_headings_above_them(self):
        for outline in self.outlines():
            above = [headings(outline, line) for line in range(len(outline))]
            for height in heights_for(outline):
                for scroll in plain.plain_scrolls(outline):
                    rows = view(outline, height, scroll)
                    place = {line: row for row, line in enumerate(rows)}
                    for line in shown_at(outline, height, scroll):
                        self.assertTrue(
                            all(place.get(heading, height) < place[line] for heading in above[line]),
                            (outline, height, scroll, line),
                        )

    def test_views_are_strictly_ascending(self):
        for outline in self.outlines():
            for height in heights_for(outline):
                for scroll in plain.plain_scrolls(outline):
                    rows = view(outline, height, scroll)
                    self.assertEqual(rows, sorted(set(rows)), (outline, height, scroll))
                    self.assertTrue(1 <= len(rows) <= height, (outline, height, scroll))

    def test_no_row_goes_back(self):
        for outline in self.outlines():
            for height in heights_for(outline):
                before = view(outline, height, 0)
                for scroll in plain.plain_scrolls(outline)[1:]:
                    after = view(outline, height, scroll)
                    self.assertTrue(
                        all(old <= new for old, new in zip(before, after)), (outline, height, scroll)
                    )
                    before = after

    def test_scrolls_for_a_line_are_an_interval(self):
        for outline in self.outlines():
            for height in heights_for(outline):
                positions = [[] for _ in outline]
                for scroll in plain.plain_scrolls(outline):
                    for line in shown_at(outline, height, scroll):
                        positions[line].append(scroll)
                for line, scrolls in enumerate(positions):
                    where = (outline, height, line)
                    self.assertEqual(bool(scrolls), outline[line] < height, where)
                    self.assertEqual(scrolls_for(outline, height, line), plain.ends(scrolls), where)
                    if scrolls:
                        self.assertEqual(scrolls, list(range(scrolls[0], scrolls[-1] + 1)), where)


if __name__ == "__main__":
    unittest.main()
