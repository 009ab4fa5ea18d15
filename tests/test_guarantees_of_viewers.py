"""The guarantees of point 4 over the whole program: views, pages, readings, folds, repeats, observations and viewers."""

import random
import unittest

from stickyheads.counting import count_outlines, nth_outline, rank_outline
from stickyheads.errors import EndError
from stickyheads.folds import fewest_folds, folded_outline, folds_to_show
from stickyheads.observations import conflict, count_fitting, depth_bounds, fits
from stickyheads.outlines import headings, section
from stickyheads.pages import fewest_pages, is_reading, is_witness_list, page_starts
from stickyheads.readings import count_shortest, nth_shortest, rank_shortest
from stickyheads.repeats import first_meeting, page_start, pages_of_repeats, reading_rate
from stickyheads.text import format_document, parse_document
from stickyheads.viewer import Viewer
from stickyheads.views import scrolls_for, shown_lines, top_line, view
from tests import plain, plain_viewer
from tests.both_viewers import BothViewers
from tests.plain_observations import count_by_depths, some_observations
from tests.plain_viewer import drawn_document, titled


def depths_of(viewer):
    return [depth for depth, _ in viewer.document()]


def some_viewers(seeds):
    """Viewers after drawn operations, with their heights."""
    for seed in seeds:
        source = random.Random(seed)
        height = source.choice((1, 2, 3, 4, 6, 10, 40))
        both = BothViewers(unittest.TestCase(), drawn_document(seed, source.randint(1, 40), source.randrange(1, 9)), height)
        both.draw(seed, 25)
        yield both.viewer, height


def numbered(viewer):
    """The lines of the document that are in the shown outline, and the shown outline."""
    depths, folds = depths_of(viewer), viewer.folds()
    hidden = {line for fold in folds for line in range(fold + 1, section(depths, fold)[1] + 1)}
    return [line for line in range(len(depths)) if line not in hidden], folded_outline(depths, folds)


class ViewersTest(unittest.TestCase):
    def test_the_view_is_the_view_of_the_shown_outline(self):
        for viewer, height in some_viewers(range(6000, 6060)):
            left, shown = numbered(viewer)
            for scroll in plain.plain_scrolls(shown):
                viewer.scroll_to(scroll)
                self.assertEqual(viewer.view(), [left[row] for row in view(shown, height, scroll)])

    def test_shown_lines_have_all_headings_above_them(self):
        for viewer, height in some_viewers(range(6100, 6160)):
            depths = depths_of(viewer)
            left, shown = numbered(viewer)
            for scroll in plain.plain_scrolls(shown):
                viewer.scroll_to(scroll)
                rows = viewer.view()
                self.assertEqual(rows, sorted(set(rows)))
                found = shown_lines(shown, height, scroll)
                for place in range(found[0], found[1] + 1) if found else ():
                    at = rows.index(left[place])
                    # The headings in the document are those in the shown outline.
                    self.assertTrue(set(headings(depths, left[place])) <= set(rows[:at]), (depths, height, scroll))

    def test_no_row_goes_back(self):
        for viewer, _ in some_viewers(range(6200, 6260)):
            viewer.scroll_to(0)
            before = viewer.view()
            for scroll in plain.plain_scrolls(numbered(viewer)[1])[1:]:
                viewer.scroll_to(scroll)
                after = viewer.view()
                self.assertTrue(all(old <= new for old, new in zip(before, after)))
                before = after

    def test_pages_down_are_a_shortest_reading(self):
        for viewer, height in some_viewers(range(6300, 6380)):
            shown = numbered(viewer)[1]
            if max(shown) >= height:
                continue
            viewer.scroll_to(0)
            scrolls = [0]
            try:
                while True:
                    viewer.page_down()
                    scrolls.append(viewer.scroll())
            except EndError:
                pass
            self.assertIs(is_reading(shown, height, scrolls), True)
            self.assertEqual(len(scrolls), fewest_pages(shown, height))
            # Each page goes on as far as it can, so no shortest reading is greater.
            many = count_shortest(shown, height)
            self.assertEqual(rank_shortest(shown, height, scrolls), many - 1)
            self.assertEqual(nth_shortest(shown, height, many - 1), scrolls)
            self.assertIs(is_witness_list(shown, height, page_starts(shown, height, 0)), True)

    def test_folding_never_makes_more_pages_necessary(self):
        for viewer, _ in some_viewers(range(6400, 6440)):
            for line in range(len(viewer)):
                toggled = viewer.duplicate()
                toggled.toggle(line)
                before, after = numbered(viewer)[1], numbered(toggled)[1]
                if line in viewer.folds():
                    before, after = after, before
                for height in (max(before) + 1, max(before) + 3):
                    self.assertLessEqual(fewest_pages(after, height), fewest_pages(before, height))

    def test_folds_that_bring_lines_together(self):
        source = random.Random(81)
        for seed in range(6500, 6560):
            outline = plain.drawn_outline(seed, source.randint(2, 40), source.randrange(1, 9))
            height = source.randint(1, 12)
            for _ in range(6):
                line, other = source.randrange(len(outline)), source.randrange(len(outline))
                folds = folds_to_show(outline, height, line, other)
                self.assertEqual(fewest_folds(outline, height, line, other), None if folds is None else len(folds))
                if folds is not None:
                    viewer = Viewer(titled(outline), height)
                    for fold in folds:
                        viewer.toggle(fold)
                    viewer.reveal(max(line, other))
                    if line != other and min(line, other) not in viewer.view():
                        viewer.reveal(min(line, other))
                    self.assertTrue({line, other} <= set(viewer.view()), (outline, height, line, other))

    def test_text_and_back(self):
        for viewer, height in some_viewers(range(6600, 6640)):
            document = parse_document(format_document(viewer.document()))
            other = Viewer(document, height)
            for line in viewer.folds():
                other.toggle(line)
            other.scroll_to(viewer.scroll())
            self.assertIs(other == viewer, True)


class ObservationsTest(unittest.TestCase):
    def test_no_outline_fits_one_or_two_of_them(self):
        seen = 0
        for outline, observations, _ in some_observations(range(6700, 7000), 60):
            lines = len(outline)
            pair = conflict(lines, observations)
            if count_by_depths(lines, observations) == 0:
                seen += 1
                few = [observations[at] for at in sorted(set(pair))]
                self.assertEqual(count_by_depths(lines, few), 0, (lines, observations))
                self.assertEqual(count_fitting(lines, few), 0)
            else:
                self.assertIs(pair, None)
        self.assertGreater(seen, 50)

    def test_what_viewers_show_fits(self):
        source = random.Random(82)
        for viewer, _ in some_viewers(range(7000, 7060)):
            shown = numbered(viewer)[1]
            scrolls = source.choices(plain.plain_scrolls(shown), k=40)
            observations = [(scroll, top_line(shown, scroll)) for scroll in scrolls]
            self.assertIs(fits(shown, observations), True)
            lines = len(shown)
            if lines <= 60:
                self.assertIs(conflict(lines, observations), None)
                self.assertGreaterEqual(count_fitting(lines, observations), 1)
                bounds = depth_bounds(lines, observations)
                self.assertTrue(all(least <= depth <= most for depth, (least, most) in zip(shown, bounds)))


class OutlinesByTheirIndexesTest(unittest.TestCase):
    """The guarantees for outlines of all kinds, drawn evenly among all of them."""

    def outlines(self):
        source = random.Random(83)
        for _ in range(60):
            lines, deepest = source.choice((1, 2, 5, 20, 60, 200)), source.choice((1, 3, 8, 200))
            outline = nth_outline(lines, deepest, source.randrange(count_outlines(lines, deepest)))
            self.assertEqual(nth_outline(lines, deepest, rank_outline(outline, deepest)), outline)
            yield outline, source

    def test_views_pages_and_readings(self):
        for outline, source in self.outlines():
            height = max(outline) + source.randint(1, 9)
            starts = page_starts(outline, height, 0)
            self.assertEqual(len(starts), fewest_pages(outline, height))
            self.assertIs(is_witness_list(outline, height, starts), True)
            index = source.randrange(count_shortest(outline, height))
            reading = nth_shortest(outline, height, index)
            self.assertIs(is_reading(outline, height, reading), True)
            self.assertEqual((len(reading), rank_shortest(outline, height, reading)), (len(starts), index))
            self.assertLessEqual(fewest_pages(outline, height + 1), len(starts))
            for line in source.choices(range(len(outline)), k=5):
                self.assertIsNot(scrolls_for(outline, outline[line] + 1, line), None)
                if outline[line]:
                    self.assertIs(scrolls_for(outline, outline[line], line), None)

    def test_readers_of_repeated_outlines(self):
        for outline, source in self.outlines():
            height = max(outline) + source.randint(1, 9)
            pages, repetitions = reading_rate(outline, height)
            one, two = source.randrange(3 * len(outline)), source.randrange(3 * len(outline))
            for number in (0, 1, 2, 7, 10 ** 30):
                starts = [page_start(outline, height, line, number) for line in sorted((one, two))]
                self.assertEqual(starts, sorted(starts))
            meeting = first_meeting(outline, height, one, two)
            if meeting is not None:
                self.assertEqual(first_meeting(outline, height, meeting, two), meeting)
            far = 10 ** 25 * repetitions
            self.assertLess(abs(pages_of_repeats(outline, height, far) - 10 ** 25 * pages), len(outline) + 1)


class EachOperationTest(unittest.TestCase):
    def test_nothing_but_the_calls_changes_a_viewer(self):
        # Other viewers and other functions leave a viewer alone.
        kept = BothViewers(self, drawn_document(7100, 15, 5), 4)
        kept.draw(7100, 40)
        for viewer, _ in some_viewers(range(7101, 7121)):
            for line in range(len(viewer)):
                viewer.toggle(line)
            kept.compare()
        kept.draw(7122, 40)

    def test_drawn_calls_with_all_answers(self):
        for seed in range(7200, 7230):
            both = BothViewers(self, drawn_document(seed, seed % 15 + 1, 5), seed % 5 + 1)
            source = random.Random(seed)
            for _ in range(30):
                both.call(*plain_viewer.drawn_call(source, both.model))
                shown = both.model.shown()
                self.assertIn(both.viewer.scroll(), plain.plain_scrolls(shown))
                self.assertEqual(numbered(both.viewer)[1], shown)


if __name__ == "__main__":
    unittest.main()
