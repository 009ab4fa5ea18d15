"""The guarantees of point 4 that speak of outlines, views, scroll positions, pages, folds and repeated outlines."""

import itertools
import random
import unittest

from stickyheads.folds import folded_outline
from stickyheads.outlines import headings
from stickyheads.pages import fewest_pages, is_reading, is_witness_list, least_height, page_starts
from stickyheads.readings import count_shortest, nth_shortest
from stickyheads.repeats import page_start, pages_of_repeats, reading_rate
from stickyheads.views import scrolls_for, shown_lines, view
from tests import plain, plain_pages


def heights_for(outline):
    lines = len(outline)
    if lines < 8:
        return [*range(1, lines + 3), 400]
    return sorted({*plain.SOME_HEIGHTS, max(outline), max(outline) + 1, max(outline) + 2} - {0, 401})


def shown_at(outline, height, scroll):
    found = shown_lines(outline, height, scroll)
    return [] if found is None else list(range(found[0], found[1] + 1))


class GuaranteesTest(unittest.TestCase):
    def outlines(self):
        drawn = [plain.drawn_outline(seed, seed % 31 + 8, seed % 8 + 1) for seed in range(500, 540)]
        return [*plain.small_outlines(7), *plain.middle_outlines(), *plain.large_outlines(), *drawn]

    def test_shown_lines_have_all_headings_above_them(self):
        for outline in self.outlines():
            above = [headings(outline, line) for line in range(len(outline))]
            for height in heights_for(outline):
                for scroll in plain.plain_scrolls(outline):
                    rows = view(outline, height, scroll)
                    place = {line: row for row, line in enumerate(rows)}
                    for line in shown_at(outline, height, scroll):
                        self.assertTrue(
                            all(place.get(heading, height) < place[line] for heading in above[line]),
                            (outline, height, scroll, line),
                        )

    def test_views_are_strictly_ascending(self):
        for outline in self.outlines():
            for height in heights_for(outline):
                for scroll in plain.plain_scrolls(outline):
                    rows = view(outline, height, scroll)
                    self.assertEqual(rows, sorted(set(rows)), (outline, height, scroll))
                    self.assertTrue(1 <= len(rows) <= height, (outline, height, scroll))

    def test_no_row_goes_back(self):
        for outline in self.outlines():
            for height in heights_for(outline):
                before = view(outline, height, 0)
                for scroll in plain.plain_scrolls(outline)[1:]:
                    after = view(outline, height, scroll)
                    self.assertTrue(
                        all(old <= new for old, new in zip(before, after)), (outline, height, scroll)
                    )
                    before = after

    def test_scrolls_for_a_line_are_an_interval(self):
        for outline in self.outlines():
            for height in heights_for(outline):
                positions = [[] for _ in outline]
                for scroll in plain.plain_scrolls(outline):
                    for line in shown_at(outline, height, scroll):
                        positions[line].append(scroll)
                for line, scrolls in enumerate(positions):
                    where = (outline, height, line)
                    self.assertEqual(bool(scrolls), outline[line] < height, where)
                    self.assertEqual(scrolls_for(outline, height, line), plain.ends(scrolls), where)
                    if scrolls:
                        self.assertEqual(scrolls, list(range(scrolls[0], scrolls[-1] + 1)), where)


def shown_heights(outline):
    """Heights greater than all depths."""
    return [height for height in heights_for(outline) if height > max(outline)]


class PagesTest(unittest.TestCase):
    def outlines(self):
        drawn = [plain.drawn_outline(seed, seed % 61 + 8, seed % 8 + 1) for seed in range(540, 570)]
        return [*plain.small_outlines(6), *plain.middle_outlines(), *plain.large_outlines(), *drawn]

    def test_fewest_pages_by_all_witness_lists(self):
        for outline in plain.small_outlines(7):
            lists = plain_pages.subsets(range(len(outline)))
            for height in range(max(outline) + 1, len(outline) + 2):
                greatest = max(len(lines) for lines in lists if is_witness_list(outline, height, lines))
                self.assertEqual(fewest_pages(outline, height), greatest, (outline, height))

    def test_a_witness_list_and_a_reading_of_the_same_length(self):
        # No reading is shorter than a witness list, so both are the best ones.
        for outline in self.outlines():
            for height in shown_heights(outline):
                where = (outline, height)
                pages = fewest_pages(outline, height)
                starts = page_starts(outline, height, 0)
                self.assertEqual(len(starts), pages, where)
                self.assertIs(is_witness_list(outline, height, starts), True, where)
                for index in {0, count_shortest(outline, height) - 1}:
                    reading = nth_shortest(outline, height, index)
                    self.assertEqual(len(reading), pages, where)
                    self.assertIs(is_reading(outline, height, reading), True, where)

    def test_no_longer_witness_lists(self):
        source = random.Random(17)
        for outline in self.outlines():
            for height in shown_heights(outline):
                pages = fewest_pages(outline, height)
                if pages < len(outline):
                    for _ in range(5):
                        lines = sorted(source.sample(range(len(outline)), pages + 1))
                        self.assertIs(is_witness_list(outline, height, lines), False, (outline, height, lines))

    def test_a_greater_height(self):
        for outline in self.outlines():
            numbers = [fewest_pages(outline, height) for height in range(max(outline) + 1, 401)]
            self.assertEqual(numbers, sorted(numbers, reverse=True), outline)
            heights = [least_height(outline, pages) for pages in range(1, len(outline) + 2)]
            self.assertEqual(heights, sorted(heights, reverse=True), outline)

    def test_folding_a_line(self):
        source = random.Random(18)
        for outline in self.outlines():
            lines = range(len(outline))
            if len(outline) < 7:
                choices = plain_pages.subsets(lines)
            else:
                choices = [sorted(source.sample(lines, source.choice((0, 1, 2, 5)))) for _ in range(4)]
            for folds, height in itertools.product(choices, shown_heights(outline)[:6]):
                pages = fewest_pages(folded_outline(outline, folds), height)
                self.assertLessEqual(pages, fewest_pages(outline, height), (outline, folds, height))
                line = source.choice(lines)
                more = folded_outline(outline, sorted({*folds, line}))
                self.assertLessEqual(fewest_pages(more, height), pages, (outline, folds, line, height))


class ReadersTest(unittest.TestCase):
    def outlines(self):
        drawn = [plain.drawn_outline(seed, seed % 61 + 8, seed % 8 + 1) for seed in range(570, 590)]
        return [*plain.small_outlines(5), *plain.middle_outlines(), *plain.large_outlines(), *drawn]

    def test_neither_overtakes_the_other(self):
        source = random.Random(19)
        numbers = [*range(12), 50, 1000, 10 ** 12, 10 ** 30]
        for outline in self.outlines():
            for height in shown_heights(outline)[:6]:
                readers = sorted({0, 1, len(outline), *[source.randrange(2 * len(outline) + 2) for _ in range(3)]})
                for number in numbers:
                    starts = [page_start(outline, height, line, number) for line in readers]
                    self.assertEqual(starts, sorted(starts), (outline, height, readers, number))

    def test_the_same_number_of_pages_in_the_long_run(self):
        source = random.Random(20)
        for outline in self.outlines():
            lines = len(outline)
            for height in shown_heights(outline)[:6]:
                pages, repetitions = reading_rate(outline, height)
                for line in {0, 1, lines - 1, source.randrange(lines)}:
                    for rounds in (1, 7, 10 ** 12, 10 ** 27):
                        # So many pages go on by as many repetitions, but for less than one repetition.
                        start = page_start(outline, height, line, rounds * pages)
                        beyond = start - line - rounds * repetitions * lines
                        self.assertLess(abs(beyond), lines, (outline, height, line))

    def test_repetitions_one_by_one(self):
        for outline in self.outlines():
            for height in shown_heights(outline)[:6]:
                pages, repetitions = reading_rate(outline, height)
                numbers = [pages_of_repeats(outline, height, times) for times in range(1, 12)]
                self.assertEqual(numbers, sorted(numbers), (outline, height))
                self.assertEqual(numbers[0], fewest_pages(outline, height))
                far = 10 ** 24 * repetitions
                difference = pages_of_repeats(outline, height, 2 * far) - pages_of_repeats(outline, height, far)
                self.assertEqual(difference, 10 ** 24 * pages, (outline, height))


if __name__ == "__main__":
    unittest.main()
