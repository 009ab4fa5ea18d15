"""Counting outlines: point 12, and the section on counting.py."""

import itertools
import random
import unittest

from stickyheads.counting import count_outlines, nth_outline, rank_outline
from stickyheads.errors import InvalidNumberError, InvalidOutlineError
from stickyheads.observations import count_fitting
from stickyheads.outlines import is_outline
from tests import plain
from tests.plain_observations import allowed_outlines, catalan_row


def cut(outline, deepest):
    """The outline with depths that are not greater than the deepest."""
    return [min(depth, deepest) for depth in outline]


class ExampleTest(unittest.TestCase):
    def test_count_outlines(self):
        self.assertEqual([count_outlines(3, 2), count_outlines(3, 1), count_outlines(3, 0)], [5, 4, 1])

    def test_nth_outline(self):
        found = [nth_outline(3, 2, index) for index in range(5)]
        self.assertEqual(found, [[0, 0, 0], [0, 0, 1], [0, 1, 0], [0, 1, 1], [0, 1, 2]])

    def test_rank_outline(self):
        self.assertEqual([rank_outline([0, 1, 1], 2), rank_outline([0, 1, 1], 1)], [3, 3])


class FewLinesTest(unittest.TestCase):
    def test_all_outlines_in_ascending_order(self):
        for lines in range(1, 9):
            for deepest in (*range(lines + 2), 200):
                expected = allowed_outlines(lines, deepest)
                self.assertEqual(count_outlines(lines, deepest), len(expected), (lines, deepest))
                found = [nth_outline(lines, deepest, index) for index in range(len(expected))]
                self.assertEqual(found, expected, (lines, deepest))
                ranks = [rank_outline(outline, deepest) for outline in expected]
                self.assertEqual(ranks, list(range(len(expected))), (lines, deepest))

    def test_kinds(self):
        self.assertIs(type(count_outlines(5, 3)), int)
        self.assertIs(type(rank_outline([0, 1, 0], 3)), int)
        found = nth_outline(5, 3, 7)
        self.assertIs(type(found), list)
        self.assertTrue(all(type(depth) is int for depth in found))


class ManyLinesTest(unittest.TestCase):
    def test_catalan_row(self):
        row = catalan_row(200)
        for lines in range(1, 201):
            for deepest in {lines - 1, lines, 200} - {201}:
                self.assertEqual(count_outlines(lines, deepest), row[lines - 1], (lines, deepest))

    def test_bounds_that_matter_by_one(self):
        row = catalan_row(200)
        for lines in range(2, 201):
            # Only the deepest outline has the depth lines - 1.
            self.assertEqual(count_outlines(lines, lines - 2), row[lines - 1] - 1)

    def test_few_depths(self):
        for lines in range(1, 201):
            self.assertEqual(count_outlines(lines, 0), 1)
            self.assertEqual(count_outlines(lines, 1), 2 ** (lines - 1))
            # For depths up to 2: 1, 2, 5, 13, 34 .., each second number of the Fibonacci row.
            one, two = 0, 1
            for _ in range(lines - 1):
                one, two = one + two, one + 2 * two
            self.assertEqual(count_outlines(lines, 2), two)

    def test_as_many_as_fit_no_observation(self):
        for lines in range(1, 61):
            self.assertEqual(count_outlines(lines, 200), count_fitting(lines, []))

    def test_index_of_the_outline_with_an_index(self):
        source = random.Random(41)
        for _ in range(150):
            lines, deepest = source.randint(1, 200), source.choice((0, 1, 2, 3, 5, 10, 50, 199, 200))
            many = count_outlines(lines, deepest)
            for index in (0, many - 1, many // 2, source.randrange(many), source.randrange(many)):
                outline = nth_outline(lines, deepest, index)
                self.assertIs(is_outline(outline), True)
                self.assertEqual(len(outline), lines)
                self.assertLessEqual(max(outline), deepest)
                self.assertEqual(rank_outline(outline, deepest), index)

    def test_outline_with_the_index_of_an_outline(self):
        drawn = [plain.drawn_outline(seed, seed % 200 + 1, seed % 8 + 1) for seed in range(2300, 2400)]
        for outline in [*plain.middle_outlines(), *plain.large_outlines(), *drawn]:
            for deepest in {max(outline), min(max(outline) + 1, 200), 200}:
                index = rank_outline(outline, deepest)
                self.assertEqual(nth_outline(len(outline), deepest, index), outline)
                low = cut(outline, 3)
                self.assertEqual(nth_outline(len(low), 3, rank_outline(low, 3)), low)

    def test_flat_and_deepest_outline(self):
        for lines in (1, 2, 3, 50, 199, 200):
            for deepest in (0, 1, 2, 7, 199, 200):
                last = count_outlines(lines, deepest) - 1
                flat, deep = [0] * lines, cut(plain.staircase(lines), deepest)
                self.assertEqual(nth_outline(lines, deepest, 0), flat)
                self.assertEqual(nth_outline(lines, deepest, last), deep)
                self.assertEqual(rank_outline(flat, deepest), 0)
                self.assertEqual(rank_outline(deep, deepest), last)

    def test_greatest_depths_that_do_not_matter(self):
        source = random.Random(42)
        for lines in (1, 2, 3, 20, 100, 199, 200):
            many = count_outlines(lines, 200)
            for index in (0, many - 1, *(source.randrange(many) for _ in range(5))):
                outlines = [nth_outline(lines, deepest, index) for deepest in {lines - 1, min(lines, 200), 200}]
                self.assertTrue(all(outline == outlines[0] for outline in outlines))
                ranks = [rank_outline(outlines[0], deepest) for deepest in {lines - 1, min(lines, 200), 200}]
                self.assertEqual(ranks, [index] * len(ranks))

    def test_order(self):
        source = random.Random(43)
        for _ in range(60):
            lines, deepest = source.randint(2, 200), source.choice((1, 2, 3, 20, 200))
            many = count_outlines(lines, deepest)
            indexes = sorted({source.randrange(many) for _ in range(6)} | {0, 1, many - 1})
            outlines = [nth_outline(lines, deepest, index) for index in indexes]
            self.assertEqual(outlines, sorted(outlines))
            at = source.randrange(many - 1)
            self.assertLess(nth_outline(lines, deepest, at), nth_outline(lines, deepest, at + 1))


class ErrorsTest(unittest.TestCase):
    def test_numbers(self):
        for wrong in (0, -1, 201, 202, 10 ** 30, *plain.NO_INTEGERS):
            for call in (lambda: count_outlines(wrong, 2), lambda: nth_outline(wrong, 2, 0)):
                with self.assertRaises(InvalidNumberError):
                    call()
        for wrong in (-1, -2, 201, 202, 10 ** 30, *plain.NO_INTEGERS):
            for call in (lambda: count_outlines(3, wrong), lambda: nth_outline(3, wrong, 0)):
                with self.assertRaises(InvalidNumberError):
                    call()

    def test_bounds(self):
        for lines, deepest in itertools.product((1, 2, 199, 200), (0, 1, 199, 200)):
            many = count_outlines(lines, deepest)
            for index in (0, many - 1):
                self.assertEqual(len(nth_outline(lines, deepest, index)), lines)
            for index in (-1, -many, many, many + 1, 10 * many + 1, *plain.NO_INTEGERS):
                with self.assertRaises(InvalidNumberError):
                    nth_outline(lines, deepest, index)

    def test_deepest_of_an_outline(self):
        for outline in [*plain.small_outlines(5), *plain.large_outlines()]:
            for deepest in {max(outline), 199, 200}:
                rank_outline(outline, deepest)
            for deepest in (max(outline) - 1, -1, 201, 202, 10 ** 30, *plain.NO_INTEGERS):
                with self.assertRaises(InvalidNumberError):
                    rank_outline(outline, deepest)

    def test_outline_comes_first(self):
        for outline, deepest in itertools.product(plain.NO_OUTLINES, (2, 200, -1, 201, True, None)):
            with self.assertRaises(InvalidOutlineError):
                rank_outline(outline, deepest)


if __name__ == "__main__":
    unittest.main()
