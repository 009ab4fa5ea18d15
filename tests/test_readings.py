"""Shortest readings: point 8, and the section on readings.py."""

import math
import random
import unittest

from stickyheads.errors import InvalidNumberError, InvalidReadingError, TooDeepError
from stickyheads.readings import count_shortest, nth_shortest, rank_shortest
from tests import plain, plain_pages

EXAMPLE = plain.EXAMPLE


def shown_heights(outline):
    """Some heights greater than all depths."""
    deepest, lines = max(outline), len(outline)
    heights = {deepest + k for k in (1, 2, 3, 4, 7, 12)} | {lines // 3, lines // 2, lines - 1, lines, lines + 1}
    return sorted(height for height in heights if deepest < height <= 400)


def long_outlines():
    drawn = [plain.drawn_outline(seed, seed % 97 + 60, seed % 6 + 1) for seed in range(1000, 1030)]
    return [*plain.middle_outlines(), *plain.large_outlines(), *drawn]


class ExampleTest(unittest.TestCase):
    def test_count_shortest(self):
        self.assertEqual(count_shortest(EXAMPLE, 3), 4)

    def test_nth_shortest(self):
        self.assertEqual(
            [nth_shortest(EXAMPLE, 3, index) for index in range(4)],
            [[0, 1, 2, 4], [0, 1, 2, 5], [0, 1, 3, 4], [0, 1, 3, 5]],
        )

    def test_rank_shortest(self):
        self.assertEqual(rank_shortest(EXAMPLE, 3, [0, 1, 3, 5]), 3)

    def test_one_page(self):
        for outline in plain.small_outlines(5):
            for height in (5, 6, 400):
                self.assertEqual(count_shortest(outline, height), 1)
                self.assertEqual(nth_shortest(outline, height, 0), [0])
                self.assertEqual(rank_shortest(outline, height, [0]), 0)


class ShortOutlinesTest(unittest.TestCase):
    def test_all_shortest_readings(self):
        for outline in plain.small_outlines(8):
            for height in range(max(outline) + 1, len(outline) + 2):
                where = (outline, height)
                expected = plain_pages.plain_shortest(outline, height)
                self.assertEqual(count_shortest(outline, height), len(expected), where)
                found = [nth_shortest(outline, height, index) for index in range(len(expected))]
                self.assertEqual(found, expected, where)
                ranks = [rank_shortest(outline, height, scrolls) for scrolls in expected]
                self.assertEqual(ranks, list(range(len(expected))), where)

    def test_all_other_sets(self):
        for outline in plain.small_outlines(6):
            sets = plain_pages.subsets(range(len(outline) + 1))
            for height in range(max(outline) + 1, len(outline) + 2):
                expected = plain_pages.plain_shortest(outline, height)
                for scrolls in sets:
                    if scrolls not in expected:
                        with self.assertRaises(InvalidReadingError, msg=(outline, height, scrolls)):
                            rank_shortest(outline, height, scrolls)

    def test_varied_readings(self):
        for outline in (EXAMPLE, [0] * 9, [0, 1, 1, 0, 1, 2, 1, 0, 0, 1, 2, 3, 2], plain.drawn_outline(31, 14, 4)):
            for height in range(max(outline) + 1, max(outline) + 4):
                expected = plain_pages.plain_shortest(outline, height)
                for values in (expected[0], expected[-1], expected[len(expected) // 2]):
                    for varied in plain_pages.varied(values, len(outline)):
                        where = (outline, height, varied)
                        if any(type(scroll) is bool for scroll in varied) or varied not in expected:
                            with self.assertRaises(InvalidReadingError, msg=where):
                                rank_shortest(outline, height, varied)
                        else:
                            self.assertEqual(rank_shortest(outline, height, varied), expected.index(varied), where)

    def test_indexes_outside_the_bounds(self):
        for outline in plain.small_outlines(6):
            for height in range(max(outline) + 1, len(outline) + 2):
                many = count_shortest(outline, height)
                for index in (-1, -many, many, many + 1, 10 ** 30, True, False, None, "0", 0.0, [0]):
                    with self.assertRaises(InvalidNumberError, msg=(outline, height, index)):
                        nth_shortest(outline, height, index)


class LongOutlinesTest(unittest.TestCase):
    def test_number(self):
        for outline in [*plain.middle_outlines(), *[plain.drawn_outline(seed, 50, seed % 6 + 1) for seed in range(8)]]:
            for height in shown_heights(outline):
                expected = plain_pages.plain_number_of_shortest(outline, height)
                self.assertEqual(count_shortest(outline, height), expected, (outline, height))

    def test_ranks_and_order(self):
        source = random.Random(8)
        for outline in long_outlines():
            for height in shown_heights(outline):
                many = count_shortest(outline, height)
                fewest = len(plain_pages.plain_page_starts(outline, height, 0))
                indexes = {0, 1, 2, many // 3, many // 2, many - 2, many - 1}
                indexes.update(source.randrange(many) for _ in range(5))
                before = []
                for index in sorted(index for index in indexes if 0 <= index < many):
                    where = (outline, height, index)
                    reading = nth_shortest(outline, height, index)
                    self.assertEqual(rank_shortest(outline, height, reading), index, where)
                    self.assertEqual(len(reading), fewest, where)
                    self.assertTrue(plain_pages.is_plain_reading(outline, height, reading), where)
                    self.assertLess(before, reading, where)
                    before = reading

    def test_neighbours_in_the_order(self):
        # Between two neighbours there is no list that is a shortest reading, so all of them are found.
        for outline in ([0] * 30, plain.drawn_outline(77, 60, 4), plain.drawn_outline(78, 40, 2)):
            height = max(outline) + 3
            many = min(count_shortest(outline, height), 300)
            found = [nth_shortest(outline, height, index) for index in range(many)]
            self.assertEqual(found, sorted(found))
            self.assertEqual(len({tuple(reading) for reading in found}), many)
            self.assertEqual([rank_shortest(outline, height, reading) for reading in found], list(range(many)))

    def test_flat_outlines(self):
        # The pages have `excess` rows too many, which may be left out of any of the steps between them.
        for lines in (1, 2, 3, 10, 101, 197, 200):
            for height in (*range(1, 30), 99, 100, 101, 198, 199, 200, 201):
                pages = (lines + height - 1) // height
                excess = pages * height - lines
                expected = math.comb(excess + pages - 1, pages - 1)
                self.assertEqual(count_shortest([0] * lines, height), expected, (lines, height))

    def test_great_numbers(self):
        outline = plain.teeth(200, 2)
        many = count_shortest(outline, 5)
        self.assertEqual(many, 3 ** 64)
        for index in (0, 1, many // 7, 10 ** 30, many - 2, many - 1):
            reading = nth_shortest(outline, 5, index)
            self.assertTrue(plain_pages.is_plain_reading(outline, 5, reading))
            self.assertEqual(rank_shortest(outline, 5, reading), index)
        for index in (many, many + 1, 10 ** 31 - 1, -1, -many):
            with self.assertRaises(InvalidNumberError):
                nth_shortest(outline, 5, index)

    def test_longer_readings(self):
        outline = plain.drawn_outline(41, 120, 4)
        height = max(outline) + 3
        reading = nth_shortest(outline, height, 0)
        longer = sorted({*reading, *range(20)})
        self.assertTrue(plain_pages.is_plain_reading(outline, height, longer))
        with self.assertRaises(InvalidReadingError):
            rank_shortest(outline, height, longer)

    def test_too_deep(self):
        for outline in [*plain.small_outlines(6), *plain.middle_outlines(), *plain.large_outlines()]:
            for height in {1, max(outline) // 2, max(outline)} - {0}:
                deep = plain_pages.first_too_deep(outline, height)
                if deep is not None:
                    for function, more in ((count_shortest, ()), (nth_shortest, (0,)), (rank_shortest, ([0],))):
                        with self.assertRaises(TooDeepError) as caught:
                            function(outline, height, *more)
                        self.assertEqual(caught.exception.line, deep, (outline, height))


if __name__ == "__main__":
    unittest.main()
