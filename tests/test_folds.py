"""Folds: point 9, and the section on folds.py."""

import itertools
import random
import unittest

from stickyheads.errors import InvalidFoldsError
from stickyheads.folds import fewest_folds, folded_outline, folds_to_show, lines_left
from stickyheads.outlines import is_outline
from stickyheads.views import scrolls_for_both
from tests import plain, plain_pages

EXAMPLE = plain.EXAMPLE


def drawn_folds(source, lines):
    """Folds drawn from a source, few or many."""
    return sorted(source.sample(range(lines), source.randrange(lines + 1) // source.choice((1, 3, 8))))


def greater_outlines():
    drawn = [plain.drawn_outline(seed, seed % 83 + 20, seed % 8 + 1) for seed in range(1100, 1140)]
    return [*plain.middle_outlines(), *plain.large_outlines(), *drawn]


class ExampleTest(unittest.TestCase):
    def test_lines_left(self):
        self.assertEqual(lines_left(EXAMPLE, [1]), [0, 1, 4, 5, 6])

    def test_folded_outline(self):
        self.assertEqual(folded_outline(EXAMPLE, [1]), [0, 1, 1, 0, 1])

    def test_fewest_folds(self):
        found = [fewest_folds(EXAMPLE, 4, 1, 5), fewest_folds(EXAMPLE, 3, 1, 5), fewest_folds(EXAMPLE, 9, 1, 5)]
        self.assertEqual(found, [1, None, 0])

    def test_folds_to_show(self):
        self.assertEqual(folds_to_show(EXAMPLE, 4, 1, 5), [1])


class LinesLeftTest(unittest.TestCase):
    def compare(self, outline, folds):
        left = plain_pages.plain_lines_left(outline, folds)
        self.assertEqual(lines_left(outline, folds), left, (outline, folds))
        folded = folded_outline(outline, folds)
        self.assertEqual(folded, [outline[line] for line in left], (outline, folds))
        self.assertIs(is_outline(folded), True, (outline, folds))

    def test_small_outlines(self):
        for outline in plain.small_outlines(7):
            for folds in plain_pages.subsets(range(len(outline))):
                self.compare(outline, folds)

    def test_greater_outlines(self):
        source = random.Random(9)
        for outline in greater_outlines():
            for folds in ([], [0], [len(outline) - 1], list(range(len(outline))), list(range(1, len(outline)))):
                self.compare(outline, folds)
            for _ in range(4):
                self.compare(outline, drawn_folds(source, len(outline)))

    def test_folded_lines_that_are_hidden(self):
        self.assertEqual(lines_left(EXAMPLE, [0, 1]), [0, 5, 6])
        self.assertEqual(lines_left(EXAMPLE, [0, 5]), [0, 5])
        self.assertEqual(lines_left(EXAMPLE, [0, 1, 2, 3, 4, 5, 6]), [0, 5])
        self.assertEqual(lines_left(EXAMPLE, [2, 3, 4, 6]), [0, 1, 2, 3, 4, 5, 6])
        self.assertEqual(lines_left(plain.staircase(200), [198]), list(range(199)))
        self.assertEqual(lines_left([0], [0]), [0])

    def test_no_folds(self):
        for outline in (EXAMPLE, [0] * 7, plain.staircase(7)):
            for function in (lines_left, folded_outline):
                for value in ([7], [0, 7], [6, 5], [0, 2, 1], *plain_pages.NO_ASCENDING_LISTS):
                    with self.subTest(function=function.__name__, kind=type(value)):
                        with self.assertRaises(InvalidFoldsError):
                            function(outline, value)

    def test_varied_folds(self):
        for outline in (EXAMPLE, plain.drawn_outline(51, 20, 5)):
            for folds in ([0], [1, 2, 5], [0, 3, 4, 6], list(range(len(outline)))):
                for varied in plain_pages.varied(folds, len(outline)):
                    if plain_pages.is_plain_ascending(varied, range(len(outline))):
                        self.compare(outline, varied)
                    else:
                        for function in (lines_left, folded_outline):
                            with self.assertRaises(InvalidFoldsError, msg=varied):
                                function(outline, varied)


class FoldsToShowTest(unittest.TestCase):
    def check_folds(self, outline, height, line, other):
        """Check that the folds leave both lines and show them together; return their number or None."""
        where = (outline, height, line, other)
        folds = folds_to_show(outline, height, line, other)
        fewest = fewest_folds(outline, height, line, other)
        if folds is None:
            self.assertIs(fewest, None, where)
            return None
        self.assertIs(type(folds), list, where)
        self.assertEqual(len(folds), fewest, where)
        self.assertTrue(plain_pages.is_plain_ascending(folds, range(len(outline))), where)
        left = plain_pages.plain_lines_left(outline, folds)
        self.assertTrue(line in left and other in left, where)
        folded = folded_outline(outline, folds)
        self.assertEqual(folded, [outline[each] for each in left], where)
        places = (left.index(line), left.index(other))
        self.assertTrue(plain_pages.are_together(folded, height, *places), where)
        self.assertIsNot(scrolls_for_both(folded, height, *places), None, where)
        return fewest

    def test_all_folds_of_small_outlines(self):
        for outline in plain.small_outlines(7):
            for height in range(1, len(outline) + 1):
                expected = plain_pages.plain_fewest_folds(outline, height)
                for pair in itertools.product(range(len(outline)), repeat=2):
                    where = (outline, height, *pair)
                    if len(outline) < 7:
                        found = self.check_folds(outline, height, *pair)
                        self.assertEqual(found, expected.get(pair), where)
                    else:
                        self.assertEqual(fewest_folds(outline, height, *pair), expected.get(pair), where)

    def test_all_folds_of_drawn_outlines(self):
        for seed in range(1200, 1206):
            outline = plain.drawn_outline(seed, 10, seed % 3 + 4)
            for height in range(1, 9):
                expected = plain_pages.plain_fewest_folds(outline, height)
                for pair in itertools.product(range(10), repeat=2):
                    self.assertEqual(fewest_folds(outline, height, *pair), expected.get(pair), (outline, height, *pair))

    def test_greater_outlines(self):
        source = random.Random(10)
        for outline in greater_outlines():
            lines = len(outline)
            for height in {1, 2, max(outline) + 1, max(outline) + 3, lines // 2, lines, 400} - {0}:
                for _ in range(6):
                    line, other = source.randrange(lines), source.randrange(lines)
                    found = self.check_folds(outline, height, line, other)
                    self.assertEqual(self.check_folds(outline, height, other, line), found)
                    self.assertEqual(found == 0, plain_pages.are_together(outline, height, line, other))

    def test_greater_heights_need_no_more_folds(self):
        source = random.Random(11)
        for outline in greater_outlines():
            line, other = source.randrange(len(outline)), source.randrange(len(outline))
            numbers = [fewest_folds(outline, height, line, other) for height in range(1, 210)]
            known = [number for number in numbers if number is not None]
            self.assertEqual(known, sorted(known, reverse=True))
            self.assertEqual(numbers, [None] * (209 - len(known)) + known)
            self.assertEqual(known[-1], 0)

    def test_equal_lines(self):
        for outline in [*plain.small_outlines(6), *plain.middle_outlines()]:
            for height in (1, 2, 3, 60, 61, 400):
                for line in range(len(outline)):
                    expected = 0 if outline[line] < height else None
                    self.assertEqual(fewest_folds(outline, height, line, line), expected)
                    self.assertEqual(folds_to_show(outline, height, line, line), None if expected is None else [])

    def test_the_first_line_may_be_folded_but_no_heading(self):
        # Line 1 hides two lines, line 4 hides three, and no heading of the last line may be folded.
        outline = [0, 1, 2, 2, 1, 2, 2, 2, 1, 2]
        self.assertEqual(folds_to_show(outline, 10, 0, 9), [])
        self.assertIn(folds_to_show(outline, 8, 0, 9), ([1], [4]))
        self.assertEqual(folds_to_show(outline, 7, 0, 9), [4])
        self.assertEqual(folds_to_show(outline, 6, 0, 9), [1, 4])
        self.assertEqual(folds_to_show(outline, 5, 0, 9), [1, 4])
        self.assertIs(folds_to_show(outline, 4, 0, 9), None)
        self.assertEqual(folds_to_show(outline, 4, 1, 4), [1])
        self.assertEqual(folds_to_show(outline, 3, 4, 1), [1])
        self.assertIs(folds_to_show(outline, 2, 1, 4), None)

    def test_long_outlines(self):
        outline = [0, *[depth for _ in range(66) for depth in (1, 2, 2)], 0]
        self.assertEqual(len(outline), 200)
        for excess in range(133):
            expected = (excess + 1) // 2
            self.assertEqual(self.check_folds(outline, 200 - excess, 0, 199), 1 if excess else 0)
            self.assertEqual(self.check_folds(outline, 199 - excess, 0, 198), expected if excess < 131 else None)


if __name__ == "__main__":
    unittest.main()
