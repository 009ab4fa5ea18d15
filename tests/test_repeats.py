"""Repeated outlines: point 10, and the section on repeats.py."""

import bisect
import itertools
import math
import random
import unittest

from stickyheads.errors import TooDeepError
from stickyheads.pages import fewest_pages, page_starts
from stickyheads.repeats import cycle_lines, first_meeting, page_start, pages_of_repeats, reading_rate
from tests import plain, plain_pages

EXAMPLE = plain.EXAMPLE
MOST = 10 ** 30


def shown_heights(outline):
    """Some heights greater than all depths."""
    deepest, lines = max(outline), len(outline)
    heights = {deepest + k for k in (1, 2, 3, 5, 8)} | {lines - 1, lines, lines + 1, 2 * lines + 1, 399, 400}
    return sorted(height for height in heights if deepest < height <= 400)


def greater_outlines():
    drawn = [plain.drawn_outline(seed, seed % 67 + 10, seed % 7 + 1) for seed in range(1300, 1330)]
    return [*plain.middle_outlines(), *plain.large_outlines(), *drawn]


def great_numbers(source):
    """Numbers of all sizes up to the greatest one."""
    drawn = [source.randrange(1, 10 ** digits) for digits in (3, 5, 10, 20, 30)]
    return [0, 1, 2, *drawn, MOST - 1, MOST]


class ExampleTest(unittest.TestCase):
    def test_page_start(self):
        found = [page_start(EXAMPLE, 3, 0, number) for number in (0, 5, 10 ** 30)]
        self.assertEqual(found, [0, 10, 1750000000000000000000000000001])

    def test_reading_rate(self):
        self.assertEqual([reading_rate(EXAMPLE, 3), reading_rate([0, 1], 2)], [(4, 1), (1, 1)])

    def test_cycle_lines(self):
        self.assertEqual(cycle_lines(EXAMPLE, 3), [1, 3, 4, 6])

    def test_pages_of_repeats(self):
        found = [pages_of_repeats(EXAMPLE, 3, times) for times in (1, 2, 10 ** 30)]
        self.assertEqual(found, [4, 8, 4000000000000000000000000000000])

    def test_first_meeting(self):
        found = [first_meeting(EXAMPLE, 3, 0, 1), first_meeting(EXAMPLE, 3, 5, 5), first_meeting([0, 0], 2, 0, 1)]
        self.assertEqual(found, [3, 5, None])


class PageStartTest(unittest.TestCase):
    def compare(self, outline, height, line, many):
        expected = plain_pages.plain_endless_starts(outline, height, line, many)
        found = [page_start(outline, height, line, number) for number in range(many)]
        self.assertEqual(found, expected, (outline, height, line))

    def test_small_outlines(self):
        for outline in plain.small_outlines(6):
            for height in range(max(outline) + 1, len(outline) + 3):
                for line in range(2 * len(outline)):
                    self.compare(outline, height, line, 3 * len(outline) + 2)

    def test_greater_outlines(self):
        for outline in greater_outlines():
            for height in shown_heights(outline):
                for line in (0, len(outline) // 2, len(outline) - 1, 3 * len(outline) + 1):
                    self.compare(outline, height, line, 30)

    def test_a_few_repetitions(self):
        for outline in (plain.drawn_outline(61, 30, 4), plain.drawn_outline(62, 41, 6), EXAMPLE, plain.teeth(34, 7)):
            for height in range(max(outline) + 1, max(outline) + 4):
                for line in range(0, len(outline), 5):
                    self.compare(outline, height, line, 3 * len(outline))

    def test_great_numbers(self):
        source = random.Random(12)
        for outline in greater_outlines()[::3]:
            for height in shown_heights(outline)[::2]:
                for line, number in itertools.product(great_numbers(source)[::2], great_numbers(source)):
                    where = (outline, height, line, number)
                    expected = plain_pages.start_by_doubling(*where)
                    self.assertEqual(page_start(*where), expected, where)

    def test_pages_of_the_finite_outline(self):
        for outline in greater_outlines():
            for height in shown_heights(outline):
                for line in (0, len(outline) - 1):
                    finite = page_starts(outline, height, line)
                    found = [page_start(outline, height, line, number) for number in range(len(finite) + 1)]
                    self.assertEqual(found[:-1], finite)
                    self.assertGreaterEqual(found[-1], len(outline))

    def test_pages_go_on_from_a_page(self):
        source = random.Random(13)
        for outline in greater_outlines():
            height = max(outline) + 2
            for _ in range(5):
                line, one, two = (source.randrange(10 ** 27) for _ in range(3))
                between = page_start(outline, height, line, one)
                expected = page_start(outline, height, line, one + two)
                self.assertEqual(page_start(outline, height, between, two), expected)


class RoundTest(unittest.TestCase):
    """The functions `reading_rate` and `cycle_lines`."""

    def compare(self, outline, height):
        where = (outline, height)
        pages, repetitions = reading_rate(outline, height)
        self.assertEqual(math.gcd(pages, repetitions), 1, where)
        for line in {0, 1, len(outline) // 2, len(outline) - 1}:
            expected = plain_pages.plain_rate(outline, height, line)
            self.assertEqual((pages, repetitions), expected, where)
        self.assertEqual(cycle_lines(outline, height), plain_pages.plain_cycle_lines(outline, height), where)

    def test_small_outlines(self):
        for outline in plain.small_outlines(7):
            for height in range(max(outline) + 1, len(outline) + 4):
                self.compare(outline, height)

    def test_greater_outlines(self):
        for outline in greater_outlines():
            for height in shown_heights(outline):
                self.compare(outline, height)

    def test_one_line(self):
        for height in range(1, 401):
            self.assertEqual(reading_rate([0], height), (1, height))
            self.assertEqual(cycle_lines([0], height), [0])
            self.assertEqual(page_start([0], height, 5, MOST), 5 + height * MOST)

    def test_flat_outlines(self):
        for lines, height in itertools.product((2, 6, 7, 200), (1, 2, 4, 6, 7, 12, 200, 400)):
            common = math.gcd(lines, height)
            self.assertEqual(reading_rate([0] * lines, height), (lines // common, height // common))
            self.assertEqual(cycle_lines([0] * lines, height), list(range(lines)))

    def test_several_rounds(self):
        # Both lines are reached again, but never by the same reader.
        self.assertEqual(cycle_lines([0, 0], 2), [0, 1])
        self.assertEqual(reading_rate([0, 0], 2), (1, 1))
        self.assertEqual(cycle_lines([0, 1], 2), [0])
        self.assertEqual(cycle_lines([0, 1], 3), [1])
        self.assertEqual(cycle_lines([0, 0, 1, 0, 0, 1], 3), [0, 1, 3, 4])

    def test_the_rate_in_the_long_run(self):
        for outline in greater_outlines():
            for height in shown_heights(outline):
                pages, repetitions = reading_rate(outline, height)
                for times in (1, 2, 3, 1000, MOST - 1, MOST):
                    difference = pages_of_repeats(outline, height, times) * repetitions - times * pages
                    # A reader is never a whole repetition ahead of the rate or behind it; one page may be cut off.
                    self.assertLessEqual(abs(difference), pages + repetitions, (outline, height, times))


class PagesOfRepeatsTest(unittest.TestCase):
    def test_written_out(self):
        for outline in [*plain.small_outlines(6), plain.drawn_outline(63, 30, 4), plain.drawn_outline(64, 49, 6)]:
            for height in range(max(outline) + 1, len(outline) + 3):
                for times in {1, 2, 3, 4, 200 // len(outline)}:
                    expected = fewest_pages(outline * times, height)
                    self.assertEqual(pages_of_repeats(outline, height, times), expected, (outline, height, times))

    def test_greater_outlines(self):
        for outline in greater_outlines():
            for height in shown_heights(outline):
                for times in (1, 2, 3, 7):
                    expected = len(plain_pages.plain_page_starts(outline * times, height, 0))
                    self.assertEqual(pages_of_repeats(outline, height, times), expected, (outline, height, times))

    def test_great_numbers(self):
        source = random.Random(14)
        for outline in greater_outlines()[::2]:
            for height in shown_heights(outline):
                for times in great_numbers(source)[1:]:
                    expected = plain_pages.pages_by_doubling(outline, height, 0, len(outline) * times)
                    self.assertEqual(pages_of_repeats(outline, height, times), expected, (outline, height, times))

    def test_last_page(self):
        for outline in greater_outlines():
            for height in shown_heights(outline):
                for times in (1, 5, 10 ** 12, 10 ** 27):
                    many = pages_of_repeats(outline, height, times)
                    self.assertLess(page_start(outline, height, 0, many - 1), len(outline) * times)
                    self.assertGreaterEqual(page_start(outline, height, 0, many), len(outline) * times)


class FirstMeetingTest(unittest.TestCase):
    def compare(self, outline, height, line, other):
        where = (outline, height, line, other)
        expected = plain_pages.plain_meeting(outline, height, line, other)
        self.assertEqual(first_meeting(outline, height, line, other), expected, where)
        self.assertEqual(first_meeting(outline, height, other, line), expected, where)
        return expected

    def test_small_outlines(self):
        found = []
        for outline in plain.small_outlines(5):
            for height in range(max(outline) + 1, len(outline) + 3):
                for line in range(2 * len(outline)):
                    found.extend(self.compare(outline, height, line, other) for other in range(line, line + 8))
        self.assertGreater(found.count(None), 1000)
        self.assertGreater(len(found) - found.count(None), 1000)

    def test_greater_outlines(self):
        source = random.Random(15)
        found = []
        for outline in greater_outlines():
            lines = len(outline)
            for height in shown_heights(outline):
                pairs = [(0, 1), (0, lines - 1), (lines - 1, lines)]
                pairs.extend((source.randrange(3 * lines), source.randrange(3 * lines)) for _ in range(3))
                found.extend(self.compare(outline, height, *pair) for pair in pairs)
        self.assertGreater(found.count(None), 100)
        self.assertGreater(len(found) - found.count(None), 100)

    def test_equal_lines(self):
        for outline in plain.small_outlines(5):
            for height in range(max(outline) + 1, len(outline) + 2):
                for line in (0, 1, 2, 199, 200, MOST - 1, MOST):
                    self.assertEqual(first_meeting(outline, height, line, line), line)

    def test_pairs_that_never_meet(self):
        for lines in (2, 4, 200):
            self.assertIs(first_meeting([0] * lines, 2, 0, 1), None)
            self.assertIs(first_meeting([0] * lines, 2, MOST, 1), None)
            self.assertEqual(first_meeting([0] * lines, 2, MOST, 2), MOST)
        self.assertIs(first_meeting([0], 400, 1, MOST), None)
        self.assertEqual(first_meeting([0], 400, 0, MOST), MOST)

    def test_lines_moved_by_repetitions(self):
        for outline in greater_outlines()[::2]:
            lines = len(outline)
            for height in shown_heights(outline):
                near = first_meeting(outline, height, 1, lines // 2)
                for times in (1, 2, 1000, 10 ** 27):
                    expected = None if near is None else near + times * lines
                    found = first_meeting(outline, height, 1 + times * lines, lines // 2 + times * lines)
                    self.assertEqual(found, expected, (outline, height, times))

    def test_lines_far_apart(self):
        source = random.Random(16)
        for outline in greater_outlines()[::3]:
            for height in shown_heights(outline)[::2]:
                for line, other in itertools.product(great_numbers(source)[::2], (source.randrange(MOST), MOST, 5)):
                    where = (outline, height, line, other)
                    low, high = min(line, other), max(line, other)
                    many = plain_pages.pages_by_doubling(outline, height, low, high)
                    reached = plain_pages.start_by_doubling(outline, height, low, many)
                    expected = plain_pages.plain_meeting(outline, height, reached, high)
                    self.assertEqual(first_meeting(outline, height, line, other), expected, where)
                    self.assertEqual(first_meeting(outline, height, other, line), expected, where)

    def test_it_is_the_first_page_of_both(self):
        for outline in greater_outlines():
            height = max(outline) + 2
            for line, other in ((0, 1), (3, 8), (1, 200)):
                found = first_meeting(outline, height, line, other)
                if found is not None:
                    starts = [plain_pages.plain_endless_starts(outline, height, k, 900) for k in (line, other)]
                    if max(starts[0][-1], starts[1][-1]) > found:
                        places = [bisect.bisect_left(each, found) for each in starts]
                        self.assertEqual([each[place] for each, place in zip(starts, places)], [found, found])
                        self.assertFalse(set(starts[0][:places[0]]) & set(starts[1][:places[1]]))


class TooDeepTest(unittest.TestCase):
    def test_first_line_of_the_whole_outline(self):
        for outline in [*plain.small_outlines(6), *plain.middle_outlines(), *plain.large_outlines()]:
            for height in {1, max(outline) // 2, max(outline)} - {0}:
                deep = plain_pages.first_too_deep(outline, height)
                if deep is None:
                    continue
                for call in (
                    lambda: reading_rate(outline, height),
                    lambda: cycle_lines(outline, height),
                    lambda: pages_of_repeats(outline, height, 1),
                    lambda: page_start(outline, height, len(outline) - 1, 0),
                    lambda: page_start(outline, height, MOST, MOST),
                    lambda: first_meeting(outline, height, deep + 1, MOST),
                    lambda: first_meeting(outline, height, 0, 0),
                ):
                    with self.assertRaises(TooDeepError) as caught:
                        call()
                    self.assertEqual(caught.exception.line, deep, (outline, height))


if __name__ == "__main__":
    unittest.main()
