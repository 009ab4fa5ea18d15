"""Pages: point 7, and the section on pages.py."""

import itertools
import unittest

from stickyheads.errors import TooDeepError
from stickyheads.pages import fewest_pages, is_reading, is_witness_list, least_height, page_starts
from tests import plain, plain_pages

EXAMPLE = plain.EXAMPLE


def some_heights(outline):
    """Heights around the greatest depth, around the number of lines, and between."""
    lines, deepest = len(outline), max(outline)
    near = {deepest + k for k in range(-1, 5)} | {lines + k for k in (-2, -1, 0, 1, 2)}
    return sorted(height for height in near | {*plain.SOME_HEIGHTS} if 1 <= height <= 400)


class ExampleTest(unittest.TestCase):
    def test_page_starts(self):
        self.assertEqual([page_starts(EXAMPLE, 3, 0), page_starts(EXAMPLE, 3, 1)], [[0, 3, 4, 6], [1, 3, 4, 6]])

    def test_fewest_pages(self):
        self.assertEqual([fewest_pages(EXAMPLE, 3), fewest_pages(EXAMPLE, 4)], [4, 2])

    def test_too_deep(self):
        with self.assertRaises(TooDeepError) as caught:
            fewest_pages(EXAMPLE, 2)
        self.assertEqual(caught.exception.line, 2)

    def test_is_reading(self):
        self.assertEqual([is_reading(EXAMPLE, 3, scrolls) for scrolls in ([0, 1, 3, 5], [0, 1, 5])], [True, False])

    def test_is_witness_list(self):
        self.assertEqual([is_witness_list(EXAMPLE, 3, lines) for lines in ([0, 3, 4, 6], [0, 2])], [True, False])

    def test_least_height(self):
        self.assertEqual([least_height(EXAMPLE, 4), least_height(EXAMPLE, 3), least_height(EXAMPLE, 1)], [3, 4, 7])


class PageStartsTest(unittest.TestCase):
    def compare(self, outline, height, lines):
        for line in lines:
            where = (outline, height, line)
            deep = plain_pages.first_too_deep(outline, height, line)
            if deep is None:
                expected = plain_pages.plain_page_starts(outline, height, line)
                self.assertEqual(page_starts(outline, height, line), expected, where)
            else:
                with self.assertRaises(TooDeepError, msg=where) as caught:
                    page_starts(outline, height, line)
                self.assertEqual(caught.exception.line, deep, where)

    def test_small_outlines(self):
        for outline in plain.small_outlines(7):
            for height in [*range(1, len(outline) + 3), 400]:
                self.compare(outline, height, range(len(outline)))

    def test_greater_outlines(self):
        for outline in [*plain.middle_outlines(), *plain.large_outlines()]:
            for height in some_heights(outline):
                self.compare(outline, height, range(0, len(outline), 3))

    def test_all_heights(self):
        for outline in (plain.hill(200), plain.drawn_outline(8, 90, 5), plain.staircase(200), plain.teeth(70, 60)):
            for height in range(1, 401):
                self.compare(outline, height, (0, 1, len(outline) // 2, len(outline) - 1))

    def test_drawn_outlines(self):
        for seed in range(600, 680):
            outline = plain.drawn_outline(seed, seed % 83 * 2 + 30, seed % 7 + 1)
            for height in some_heights(outline)[::2]:
                self.compare(outline, height, (0, seed % 30, len(outline) - 1))

    def test_only_lines_from_the_given_one_on_count(self):
        outline = [0, 1, 2, 3, 0, 1, 1, 2, 0, 0]
        self.assertEqual(page_starts(outline, 1, 8), [8, 9])
        self.assertEqual(page_starts(outline, 2, 8), [8])
        self.assertEqual(page_starts(outline, 3, 4), [4, 7, 8])
        for height, line, deep in ((1, 0, 1), (2, 0, 2), (3, 0, 3), (1, 4, 5), (2, 4, 7), (1, 6, 6), (2, 7, 7)):
            with self.assertRaises(TooDeepError) as caught:
                page_starts(outline, height, line)
            self.assertEqual(caught.exception.line, deep)


class FewestPagesTest(unittest.TestCase):
    def test_all_sets_of_scroll_positions(self):
        for outline in plain.small_outlines(7):
            for height in range(1, len(outline) + 2):
                where = (outline, height)
                fewest = next(
                    (
                        len(scrolls) for scrolls in plain_pages.subsets(plain.plain_scrolls(outline))
                        if plain_pages.is_plain_reading(outline, height, scrolls)
                    ),
                    None,
                )
                if fewest is None:
                    with self.assertRaises(TooDeepError, msg=where) as caught:
                        fewest_pages(outline, height)
                    self.assertEqual(caught.exception.line, plain_pages.first_too_deep(outline, height), where)
                else:
                    self.assertEqual(fewest_pages(outline, height), fewest, where)

    def test_greater_outlines(self):
        drawn = [plain.drawn_outline(seed, seed % 83 * 2 + 30, seed % 7 + 1) for seed in range(700, 780)]
        for outline in [*plain.middle_outlines(), *plain.large_outlines(), *drawn]:
            for height in some_heights(outline):
                where = (outline, height)
                deep = plain_pages.first_too_deep(outline, height)
                if deep is None:
                    expected = len(plain_pages.plain_page_starts(outline, height, 0))
                    self.assertEqual(fewest_pages(outline, height), expected, where)
                else:
                    with self.assertRaises(TooDeepError, msg=where) as caught:
                        fewest_pages(outline, height)
                    self.assertEqual(caught.exception.line, deep, where)

    def test_bounds(self):
        found = [fewest_pages([0] * 200, height) for height in (1, 2, 3, 199, 200, 400)]
        self.assertEqual(found, [200, 100, 67, 2, 1, 1])
        self.assertEqual([fewest_pages([0], height) for height in (1, 400)], [1, 1])
        self.assertEqual(fewest_pages(plain.staircase(200), 200), 1)
        with self.assertRaises(TooDeepError) as caught:
            fewest_pages(plain.staircase(200), 199)
        self.assertEqual(caught.exception.line, 199)


class LeastHeightTest(unittest.TestCase):
    def plain_least_height(self, outline, pages):
        heights = [height for height in range(1, 401) if all(depth < height for depth in outline)]
        return next(
            height for height in heights if len(plain_pages.plain_page_starts(outline, height, 0)) <= pages
        )

    def test_small_outlines(self):
        for outline in plain.small_outlines(7):
            for pages in [*range(1, len(outline) + 3), 200, 201, 10 ** 30]:
                expected = self.plain_least_height(outline, pages)
                self.assertEqual(least_height(outline, pages), expected, (outline, pages))

    def test_greater_outlines(self):
        drawn = [plain.drawn_outline(seed, seed % 53 + 30, seed % 7 + 1) for seed in range(800, 820)]
        for outline in [*plain.middle_outlines(), *plain.large_outlines(), *drawn]:
            lines = len(outline)
            for pages in (1, 2, 3, 4, 5, 7, 11, 20, 50, lines - 1, lines, lines + 1, 10 ** 30):
                expected = self.plain_least_height(outline, pages)
                self.assertEqual(least_height(outline, pages), expected, (outline, pages))

    def test_no_smaller_height(self):
        for outline in plain.middle_outlines():
            for pages in range(1, 30):
                height = least_height(outline, pages)
                self.assertLessEqual(fewest_pages(outline, height), pages)
                if height > max(outline) + 1:
                    self.assertGreater(fewest_pages(outline, height - 1), pages)

    def test_many_digits(self):
        for pages in (10 ** 30, 10 ** 31 - 1):
            self.assertEqual(least_height(EXAMPLE, pages), 3)
            self.assertEqual(least_height([0], pages), 1)
            self.assertEqual(least_height(plain.staircase(200), pages), 200)


class ListsTest(unittest.TestCase):
    """The functions `is_reading` and `is_witness_list`."""

    def compare(self, outline, height, value):
        where = (outline, height, value)
        self.assertIs(is_reading(outline, height, value), plain_pages.is_plain_reading(outline, height, value), where)
        expected = plain_pages.is_plain_witness_list(outline, height, value)
        self.assertIs(is_witness_list(outline, height, value), expected, where)

    def test_all_sets(self):
        for outline in plain.small_outlines(6):
            sets = plain_pages.subsets(range(len(outline)))
            for height in range(1, len(outline) + 2):
                for values in sets:
                    self.compare(outline, height, values)

    def test_all_short_lists(self):
        for outline in plain.small_outlines(4):
            for height in range(1, len(outline) + 2):
                for many in range(5):
                    for values in itertools.product(range(-1, len(outline) + 1), repeat=many):
                        self.compare(outline, height, list(values))

    def test_varied_lists(self):
        drawn = [plain.drawn_outline(seed, seed % 11 + 12, seed % 5 + 2) for seed in range(900, 910)]
        for outline in drawn:
            for height in sorted({max(outline), max(outline) + 1, max(outline) + 3, len(outline)} - {0}):
                starts = plain_pages.plain_page_starts(outline, max(height, max(outline) + 1), 0)
                stops = [start - outline[start] for start in starts]
                for values in (starts, stops):
                    for varied in plain_pages.varied(values, len(outline)):
                        self.compare(outline, height, varied)

    def test_long_lists(self):
        for outline in plain.large_outlines():
            for height in (1, 2, 41, 100, 200):
                for values in (list(range(200)), [0], [199], list(range(0, 200, 7)), [0, 1, 199], list(range(201))):
                    self.compare(outline, height, values)
        self.assertIs(is_reading([0] * 200, 1, list(range(200))), True)
        self.assertIs(is_witness_list([0] * 200, 1, list(range(200))), True)
        self.assertIs(is_witness_list([0] * 200, 2, list(range(200))), False)
        self.assertIs(is_witness_list(plain.staircase(200), 1, list(range(200))), True)

    def test_pages_are_a_reading_and_a_witness_list(self):
        for outline in [*plain.middle_outlines(), *plain.large_outlines()]:
            for height in some_heights(outline):
                if height > max(outline):
                    starts = page_starts(outline, height, 0)
                    self.assertIs(is_witness_list(outline, height, starts), True, (outline, height))
                    stops = [start - outline[start] for start in starts]
                    self.assertIs(is_reading(outline, height, stops), True, (outline, height))
                    for missing in range(len(stops)):
                        self.assertIs(is_reading(outline, height, stops[:missing] + stops[missing + 1:]), False)

    def test_readings_with_more_scroll_positions(self):
        self.assertIs(is_reading(EXAMPLE, 3, [0, 1, 2, 3, 4, 5]), True)
        self.assertIs(is_reading(EXAMPLE, 3, [0, 1, 2, 3, 4, 5, 6]), False)
        self.assertIs(is_reading(EXAMPLE, 400, [0]), True)
        self.assertIs(is_reading(EXAMPLE, 400, [5]), False)
        self.assertIs(is_reading(EXAMPLE, 400, []), False)

    def test_too_deep_lines(self):
        # A line that can never be shown is in no view: there is no reading, but the line is a witness.
        for value in plain_pages.subsets(range(6)):
            self.assertIs(is_reading(EXAMPLE, 2, value), False)
        self.assertIs(is_witness_list(EXAMPLE, 2, [2, 3]), True)
        self.assertIs(is_witness_list(EXAMPLE, 2, [0, 1]), False)
        self.assertIs(is_witness_list(EXAMPLE, 1, [0, 1, 2, 3, 4, 5, 6]), True)

    def test_short_witness_lists(self):
        for outline in plain.small_outlines(5):
            for height in (1, 2, 3, 400):
                self.assertIs(is_witness_list(outline, height, []), True)
                for line in range(len(outline)):
                    self.assertIs(is_witness_list(outline, height, [line]), True)
                self.assertIs(is_witness_list(outline, height, [len(outline)]), False)

    def test_other_values(self):
        for value in plain_pages.NO_ASCENDING_LISTS:
            for height in (1, 3, 400):
                with self.subTest(kind=type(value), height=height):
                    self.assertIs(is_reading(EXAMPLE, height, value), False)
                    self.assertIs(is_witness_list(EXAMPLE, height, value), False)

    def test_lists_that_contain_themselves(self):
        first = []
        first.append(first)
        second = [0]
        second.append(second)
        for value in (first, second):
            self.assertIs(is_reading(EXAMPLE, 3, value), False)
            self.assertIs(is_witness_list(EXAMPLE, 3, value), False)

    def test_bools_as_items(self):
        self.assertIs(is_reading([0], 1, [0]), True)
        self.assertIs(is_reading([0], 1, [False]), False)
        self.assertIs(is_reading([0, 0], 1, [0, True]), False)
        self.assertIs(is_witness_list([0, 0], 1, [False, 1]), False)
        self.assertIs(is_witness_list([0, 0], 1, [True]), False)


if __name__ == "__main__":
    unittest.main()
