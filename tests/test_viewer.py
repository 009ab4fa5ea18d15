"""Viewers: point 13, and the section on viewer.py."""

import itertools
import random
import unittest

from stickyheads.errors import EmptyHistoryError, EndError, TooDeepError
from stickyheads.folds import folded_outline
from stickyheads.pages import fewest_pages
from stickyheads.viewer import Viewer
from stickyheads.views import shown_lines, top_line
from tests import plain, plain_pages, plain_viewer
from tests.both_viewers import BothViewers
from tests.plain_viewer import EXAMPLE, drawn_document, titled


def shown_outline(viewer):
    return folded_outline([depth for depth, _ in viewer.document()], viewer.folds())


def folded_viewer(document, height, folds, scroll=0):
    viewer = Viewer(document, height)
    for line in folds:
        viewer.toggle(line)
    viewer.scroll_to(scroll)
    return viewer


class ExampleTest(unittest.TestCase):
    def setUp(self):
        self.v = Viewer(EXAMPLE, 3)

    def test_viewer(self):
        self.assertEqual(self.v.view(), [0, 1, 2])
        self.assertEqual(self.v.scroll(), 0)
        self.assertEqual(self.v.folds(), [])
        self.assertIs(self.v.document() == EXAMPLE, True)

    def test_scroll_to(self):
        self.v.scroll_to(1)
        self.assertEqual(self.v.view(), [0, 1, 3])

    def test_page_down(self):
        self.v.page_down()
        self.assertEqual((self.v.scroll(), self.v.view()), (3, [3]))

    def test_page_up(self):
        self.v.page_down()
        self.v.page_up()
        self.assertEqual(self.v.scroll(), 0)

    def test_reveal(self):
        self.v.reveal(3)
        self.assertEqual(self.v.scroll(), 1)

    def test_toggle(self):
        self.v.toggle(1)
        self.assertEqual(self.v.view(), [0, 1, 3])

    def test_insert(self):
        self.v.insert(4, 1, "e")
        self.assertEqual(self.v.document()[3:], [(0, "d"), (1, "e")])

    def test_remove(self):
        self.v.remove(1)
        self.assertEqual(self.v.document(), [(0, "a"), (0, "d")])

    def test_indent(self):
        self.v.indent(3)
        self.assertEqual(self.v.document()[3], (1, "d"))

    def test_outdent(self):
        self.v.outdent(1)
        self.assertEqual(self.v.document()[:3], [(0, "a"), (0, "b"), (1, "c")])

    def test_undo(self):
        self.v.remove(0)
        self.v.undo()
        self.assertEqual(len(self.v), 4)

    def test_redo(self):
        self.v.remove(0)
        self.v.undo()
        self.v.redo()
        self.assertEqual(len(self.v), 1)

    def test_view(self):
        self.v.toggle(0)
        self.assertEqual(self.v.view(), [0, 3])

    def test_folds(self):
        self.v.toggle(1)
        self.v.toggle(0)
        self.assertEqual(self.v.folds(), [0, 1])

    def test_duplicate(self):
        w = self.v.duplicate()
        w.scroll_to(2)
        self.assertEqual((self.v.scroll(), w.scroll(), self.v == w), (0, 2, False))


class SequencesTest(unittest.TestCase):
    """Sequences of calls against plain lists of states."""

    def test_each_call_on_small_documents(self):
        for outline in plain.small_outlines(4):
            lines = len(outline)
            some = [(name, line) for name in ("toggle", "reveal", "remove", "indent", "outdent") for line in range(lines)]
            some.extend(("insert", line, depth, "new") for line in range(lines + 1) for depth in range(-1, 5))
            some.extend(("scroll_to", scroll) for scroll in range(lines + 1))
            some.extend([("page_down",), ("page_up",), ("undo",), ("redo",)])
            for folds, height in itertools.product(plain_pages.subsets(range(lines)), (1, 2, 3)):
                both = BothViewers(self, titled(outline), height)
                for line in folds:
                    both.call("toggle", line)
                # From the last scroll position, since fewer lines may make it too great.
                both.call("scroll_to", max(plain.plain_scrolls(both.model.shown())))
                for each in some:
                    if both.call(*each) is None and each[0] not in ("undo", "redo"):
                        both.call("undo")

    def test_drawn_calls(self):
        refused = {}
        for seed in range(4000, 4160):
            height = random.Random(seed).choice((1, 2, 2, 3, 3, 3, 4, 5, 8, 400))
            both = BothViewers(self, drawn_document(seed, seed % 17 + 1, seed % 8 + 1), height)
            both.draw(seed, 60)
            for name in both.refused:
                refused[name] = refused.get(name, 0) + 1
        # All errors but TooManyLinesError have been seen, and most calls raised none.
        self.assertEqual(set(refused), {
            None, "InvalidScrollError", "EndError", "TooDeepError", "InvalidLineError", "HiddenLineError",
            "InvalidDepthError", "InvalidTitleError", "EmptyOutlineError", "EmptyHistoryError",
        })
        self.assertTrue(all(many >= 10 for many in refused.values()), refused)
        self.assertGreater(refused[None], sum(refused.values()) // 2)

    def test_300_calls_on_one_viewer(self):
        for seed in range(4200, 4212):
            both = BothViewers(self, drawn_document(seed, 12, 5), seed % 5 + 2)
            both.draw(seed, 300)

    def test_many_lines(self):
        for seed in range(4300, 4308):
            for lines in (198, 199, 200):
                both = BothViewers(self, drawn_document(seed, lines, seed % 6 + 2), seed % 12 + 3)
                both.draw(seed, 8)
                if len(both.viewer) == 200:
                    self.assertEqual(both.call("insert", 200, 0, "a"), "TooManyLinesError")

    def test_all_back_and_all_again(self):
        for seed in range(4400, 4420):
            both = BothViewers(self, drawn_document(seed, seed % 20 + 1, seed % 8 + 1), seed % 6 + 1)
            both.draw(seed, 80)
            while both.call("undo") is None:
                pass
            self.assertEqual(both.viewer, Viewer(both.calls[0][1], both.calls[0][2]))
            while both.call("redo") is None:
                pass
            self.assertEqual(len(both.model.states), both.model.at + 1)


class PagesTest(unittest.TestCase):
    def documents(self):
        outlines = [*plain.small_outlines(5), *plain.middle_outlines(), plain.teeth(200, 40), plain.drawn_outline(5, 200, 4)]
        return [titled(outline) for outline in outlines]

    def viewers(self):
        """Viewers at their first position, some lines folded, of heights that show all lines and of smaller ones."""
        source = random.Random(61)
        for document in self.documents():
            deepest = max(depth for depth, _ in document)
            for height in {1, 2, 3, deepest, deepest + 1, deepest + 2, deepest + 5, 400} - {0}:
                for many in (0, 1, 3):
                    folds = sorted(source.sample(range(len(document)), min(many, len(document))))
                    yield folded_viewer(document, height, folds), height

    def test_down_to_the_end(self):
        for viewer, height in self.viewers():
            shown = shown_outline(viewer)
            pages = 1
            try:
                while True:
                    before, below = viewer.scroll(), viewer.scroll() + height
                    seen = shown_lines(shown, height, before)
                    viewer.page_down()
                    pages += 1
                    # The first line below the view is shown now, and no line between the two views is left out.
                    now = shown_lines(shown, height, viewer.scroll())
                    self.assertTrue(now[0] <= below <= now[1], (shown, height, before))
                    self.assertTrue(seen is None or seen[1] + 1 == below, (shown, height, before))
                    self.assertEqual(viewer.scroll(), below - shown[below])
            except EndError:
                self.assertGreaterEqual(viewer.scroll() + height, len(shown))
                if max(shown) < height:
                    self.assertEqual(pages, fewest_pages(shown, height))
            except TooDeepError as error:
                self.assertGreaterEqual(viewer.document()[error.line][0], height)
                self.assertGreaterEqual(max(shown), height)

    def test_up_to_the_begin(self):
        for viewer, height in self.viewers():
            shown = shown_outline(viewer)
            viewer.scroll_to(max(plain.plain_scrolls(shown)))
            while viewer.scroll() > 0:
                before, top = viewer.scroll(), top_line(shown, viewer.scroll())
                seen = shown_lines(shown, height, before)
                viewer.page_up()
                self.assertLess(viewer.scroll(), before)
                if seen is not None:
                    # No line between the two views is left out.
                    rows = range(viewer.scroll(), viewer.scroll() + height)
                    between = range(top_line(shown, viewer.scroll()), top)
                    self.assertTrue(all(line in rows for line in between), (shown, height, before))
            with self.assertRaises(EndError):
                viewer.page_up()

    def test_against_the_plain_viewer(self):
        for viewer, height in itertools.islice(self.viewers(), 0, None, 7):
            both = BothViewers(self, viewer.document(), height)
            for line in viewer.folds():
                both.call("toggle", line)
            while both.call("page_down") is None:
                pass
            both.call("scroll_to", max(plain.plain_scrolls(both.model.shown())))
            while both.call("page_up") is None:
                pass

    def test_number_in_the_document(self):
        viewer = Viewer([(0, "a"), (1, "b"), (1, "c"), (2, "d"), (0, "e"), (1, "f"), (2, "g"), (3, "h")], 2)
        viewer.toggle(2)
        viewer.reveal(5)
        with self.assertRaises(TooDeepError) as caught:
            viewer.page_down()
        self.assertEqual(caught.exception.line, 6)

    def test_headings_fill_all_rows(self):
        viewer = Viewer([(0, "a"), (1, "b"), (2, "c"), (2, "d"), (2, "e"), (0, "f")], 2)
        viewer.scroll_to(1)
        self.assertEqual(viewer.view(), [0, 1])
        with self.assertRaises(TooDeepError) as caught:
            viewer.page_down()
        self.assertEqual(caught.exception.line, 3)
        viewer.scroll_to(3)
        viewer.page_down()
        self.assertEqual((viewer.scroll(), viewer.view()), (5, [5]))
        viewer.page_up()
        self.assertEqual((viewer.scroll(), viewer.view()), (3, [0, 1]))
        viewer.page_up()
        self.assertEqual((viewer.scroll(), viewer.view()), (2, [0, 1]))


class RevealTest(unittest.TestCase):
    def test_nearest_position(self):
        for outline in [*plain.small_outlines(5), *plain.middle_outlines()[:4]]:
            for height in (1, 2, 3, 10):
                positions = plain.plain_positions(outline, height)
                viewer = Viewer(titled(outline), height)
                last = max(plain.plain_scrolls(outline))
                for line, scroll in itertools.product(range(len(outline)), {0, 1, last // 2, last}):
                    if scroll <= last and outline[line] < height:
                        viewer = Viewer(titled(outline), height)
                        viewer.scroll_to(scroll)
                        viewer.reveal(line)
                        nearest = min(positions[line], key=lambda each: abs(each - scroll))
                        self.assertEqual(viewer.scroll(), nearest, (outline, height, scroll, line))
                        self.assertIn(line, viewer.view())

    def test_lines_below_a_fold(self):
        viewer = folded_viewer(titled([0, 1, 1, 0, 1, 1, 0]), 2, [0])
        for line, scroll in ((6, 3), (4, 1), (3, 1), (0, 0), (5, 2)):
            viewer.reveal(line)
            self.assertEqual(viewer.scroll(), scroll)
            self.assertIn(line, viewer.view())

    def test_headings_alone_are_not_shown(self):
        # Line 1 stays in the view as a heading, and yet it is not shown at the scroll position 2.
        viewer = Viewer(titled([0, 1, 2, 2, 2, 2]), 4)
        viewer.scroll_to(2)
        self.assertIn(1, viewer.view())
        viewer.reveal(1)
        self.assertEqual(viewer.scroll(), 0)


class FoldsTest(unittest.TestCase):
    def test_hidden_lines_are_toggled(self):
        viewer = Viewer(titled([0, 1, 2, 3, 0]), 5)
        for line, folds, view in (
            (0, [0], [0, 4]), (2, [0, 2], [0, 4]), (1, [0, 1, 2], [0, 4]), (0, [1, 2], [0, 1, 4]),
            (1, [2], [0, 1, 2, 4]), (2, [], [0, 1, 2, 3, 4]), (4, [4], [0, 1, 2, 3, 4]), (3, [3, 4], [0, 1, 2, 3, 4]),
        ):
            viewer.toggle(line)
            self.assertEqual((viewer.folds(), viewer.view()), (folds, view))

    def test_lines_inserted(self):
        viewer = folded_viewer(titled([0, 1, 2, 0, 1]), 9, [1, 3])
        viewer.insert(1, 1, "x")
        self.assertEqual((viewer.folds(), viewer.view()), ([2, 4], [0, 1, 2, 4]))
        viewer.insert(3, 2, "y")
        self.assertEqual((viewer.folds(), viewer.view()), ([2, 5], [0, 1, 2, 5]))
        viewer.insert(2, 1, "z")
        self.assertEqual((viewer.folds(), viewer.view()), ([3, 6], [0, 1, 2, 3, 6]))
        viewer.insert(8, 0, "end")
        self.assertEqual((viewer.folds(), viewer.view()), ([3, 6], [0, 1, 2, 3, 6, 8]))
        viewer.insert(0, 0, "begin")
        self.assertEqual((viewer.folds(), viewer.view()), ([4, 7], [0, 1, 2, 3, 4, 7, 9]))

    def test_a_line_inserted_takes_the_lines_of_a_folded_one(self):
        viewer = folded_viewer(titled([0, 1, 1]), 9, [0])
        viewer.insert(1, 0, "x")
        self.assertEqual((viewer.folds(), viewer.view()), ([0], [0, 1, 2, 3]))

    def test_lines_removed(self):
        viewer = folded_viewer(titled([0, 1, 2, 1, 0, 1, 0, 1]), 9, [0, 1, 2, 4, 6])
        viewer.remove(1)
        self.assertEqual((viewer.folds(), viewer.view()), ([0, 2, 4], [0, 2, 4]))
        viewer.remove(2)
        self.assertEqual((viewer.folds(), viewer.view()), ([0, 2], [0, 2]))
        viewer.remove(0)
        self.assertEqual((viewer.folds(), viewer.view()), ([0], [0]))
        viewer.toggle(0)
        self.assertEqual((viewer.folds(), viewer.document()), ([], [(0, "t6"), (1, "t7")]))

    def test_indent_and_outdent(self):
        viewer = folded_viewer(titled([0, 1, 0, 1, 1]), 9, [1, 2, 3])
        viewer.indent(2)
        self.assertEqual((viewer.folds(), viewer.view()), ([1, 2, 3], [0, 1, 2]))
        viewer.indent(2)
        self.assertEqual((viewer.folds(), viewer.view()), ([1, 2, 3], [0, 1]))
        viewer.outdent(3)
        self.assertEqual((viewer.folds(), viewer.view()), ([1, 2, 3], [0, 1]))
        viewer.outdent(2)
        self.assertEqual((viewer.folds(), viewer.view()), ([1, 2, 3], [0, 1, 2]))
        self.assertEqual([depth for depth, _ in viewer.document()], [0, 1, 1, 2, 3])


class ScrollTest(unittest.TestCase):
    def test_too_great_positions(self):
        document = titled([0, 0, 0, 1, 1, 1])
        for name, arguments, scroll in (
            ("toggle", (2,), 2), ("remove", (2,), 1), ("remove", (5,), 3), ("indent", (2,), 3), ("insert", (6, 2, "x"), 4),
            ("insert", (6, 0, "x"), 4), ("outdent", (5,), 4), ("toggle", (0,), 4), ("remove", (0,), 3),
        ):
            viewer = Viewer(document, 2)
            viewer.scroll_to(4)
            getattr(viewer, name)(*arguments)
            self.assertEqual(viewer.scroll(), scroll, (name, arguments))
            viewer.undo()
            self.assertEqual((viewer.scroll(), viewer.document()), (4, document))
            viewer.redo()
            self.assertEqual(viewer.scroll(), scroll, (name, arguments))

    def test_unfolding_does_not_bring_it_back(self):
        viewer = Viewer(titled([0, 1, 1, 1]), 2)
        viewer.scroll_to(2)
        viewer.toggle(0)
        viewer.toggle(0)
        self.assertEqual((viewer.scroll(), viewer.folds()), (0, []))
        viewer.undo()
        viewer.undo()
        self.assertEqual(viewer.scroll(), 2)


class HistoryTest(unittest.TestCase):
    CHANGING_NOTHING = (("scroll_to", 0), ("reveal", 0), ("reveal", 1))

    def test_calls_that_change_nothing_are_operations(self):
        for name, line in self.CHANGING_NOTHING:
            viewer = Viewer(EXAMPLE, 3)
            viewer.toggle(1)
            getattr(viewer, name)(line)
            viewer.undo()
            self.assertEqual(viewer.folds(), [1])
            viewer.undo()
            self.assertEqual(viewer.folds(), [])
            with self.assertRaises(EmptyHistoryError):
                viewer.undo()

    def test_calls_that_change_nothing_discard_undone_operations(self):
        for name, line in self.CHANGING_NOTHING:
            viewer = Viewer(EXAMPLE, 3)
            viewer.toggle(1)
            viewer.undo()
            getattr(viewer, name)(line)
            with self.assertRaises(EmptyHistoryError):
                viewer.redo()

    def test_calls_that_tell_something_are_no_operations(self):
        viewer = Viewer(EXAMPLE, 3)
        viewer.toggle(1)
        viewer.undo()
        for _ in range(3):
            for method in (viewer.view, viewer.scroll, viewer.document, viewer.folds, viewer.duplicate):
                method()
            self.assertEqual(len(viewer), 4)
            self.assertIs(viewer == viewer.duplicate(), True)
        viewer.redo()
        self.assertEqual(viewer.folds(), [1])

    def test_undo_and_redo_are_no_operations(self):
        viewer = Viewer(EXAMPLE, 3)
        viewer.toggle(0)
        viewer.toggle(1)
        viewer.toggle(2)
        for folds in ([0, 1], [0], []):
            viewer.undo()
            self.assertEqual(viewer.folds(), folds)
        for folds in ([0], [0, 1], [0, 1, 2]):
            viewer.redo()
            self.assertEqual(viewer.folds(), folds)

    def test_a_new_operation_discards_all_undone_ones(self):
        for undone in (1, 2, 3):
            viewer = Viewer(EXAMPLE, 3)
            for line in (0, 1, 2):
                viewer.toggle(line)
            for _ in range(undone):
                viewer.undo()
            viewer.toggle(3)
            self.assertEqual(viewer.folds(), [0, 1, 2][:3 - undone] + [3])
            with self.assertRaises(EmptyHistoryError):
                viewer.redo()
            viewer.undo()
            viewer.redo()
            self.assertEqual(viewer.folds(), [0, 1, 2][:3 - undone] + [3])

    def test_150_operations_back_and_again(self):
        viewer = Viewer([(0, "a")], 3)
        for line in range(1, 101):
            viewer.insert(line, 0, f"t{line}")
        for left in range(100, 0, -1):
            viewer.undo()
            self.assertEqual(len(viewer), left)
        for lines in range(2, 102):
            viewer.redo()
            self.assertEqual(len(viewer), lines)
        self.assertEqual(viewer.document()[1:], [(0, f"t{line}") for line in range(1, 101)])


class ListsTest(unittest.TestCase):
    def test_the_document_that_was_passed(self):
        for change in (list.clear, list.reverse, lambda rows: rows.append((0, "z")), lambda rows: rows.insert(0, None)):
            document = list(EXAMPLE)
            viewer = Viewer(document, 3)
            viewer.toggle(1)
            change(document)
            self.assertEqual(viewer.document(), EXAMPLE)
            self.assertEqual((len(viewer), viewer.view()), (4, [0, 1, 3]))
            viewer.undo()
            self.assertEqual((viewer.document(), viewer.view()), (EXAMPLE, [0, 1, 2]))

    def test_returned_lists(self):
        for seed in range(4500, 4520):
            both = BothViewers(self, drawn_document(seed, seed % 9 + 2, 4), 3)
            source = random.Random(seed)
            for _ in range(40):
                both.call(*plain_viewer.drawn_call(source, both.model))
                for method in (both.viewer.document, both.viewer.folds, both.viewer.view):
                    one, two = method(), method()
                    self.assertIsNot(one, two)
                    one.append((0, "z"))
                    two.clear()
                    both.compare()
            while both.call("undo") is None:
                pass

    def test_kinds(self):
        viewer = folded_viewer(EXAMPLE, 3, [1], 1)
        for method in (viewer.document, viewer.folds, viewer.view):
            self.assertIs(type(method()), list)
        for item in viewer.document():
            self.assertIs(type(item), tuple)
            self.assertEqual([type(part) for part in item], [int, str])
        self.assertTrue(all(type(line) is int for line in viewer.folds() + viewer.view() + [viewer.scroll(), len(viewer)]))
        self.assertIs(type(viewer.duplicate()), Viewer)


class DuplicateTest(unittest.TestCase):
    def test_independent(self):
        for seed in range(4600, 4640):
            one = BothViewers(self, drawn_document(seed, seed % 12 + 1, 5), seed % 4 + 2)
            one.draw(seed, 30)
            two = one.copied()
            self.assertIs(one.viewer == two.viewer, True)
            two.draw(seed + 100, 30)
            one.compare()
            one.draw(seed + 200, 30)
            two.compare()
            for both in (one, two):
                while both.call("undo") is None:
                    pass
            self.assertIs(one.viewer == two.viewer, True)
            for both in (two, one):
                while both.call("redo") is None:
                    pass

    def test_operations_and_undone_operations(self):
        viewer = Viewer(EXAMPLE, 3)
        for line in (0, 1, 2):
            viewer.toggle(line)
        viewer.undo()
        first, second = viewer.duplicate(), viewer.duplicate()
        first.redo()
        self.assertEqual((first.folds(), second.folds(), viewer.folds()), ([0, 1, 2], [0, 1], [0, 1]))
        second.undo()
        second.undo()
        self.assertEqual((first.folds(), second.folds(), viewer.folds()), ([0, 1, 2], [], [0, 1]))
        second.toggle(3)
        viewer.redo()
        self.assertEqual((viewer.folds(), second.folds()), ([0, 1, 2], [3]))
        with self.assertRaises(EmptyHistoryError):
            second.redo()


class EqualityTest(unittest.TestCase):
    def assert_equal(self, one, two, expected):
        for left, right in ((one, two), (two, one)):
            self.assertIs(left == right, expected)
            self.assertIs(left != right, not expected)

    def test_equal(self):
        for folds, scroll in itertools.product(([], [0], [1, 3]), (0, 1)):
            one, two = folded_viewer(EXAMPLE, 3, folds, scroll), folded_viewer(list(EXAMPLE), 3, folds[::-1], scroll)
            self.assert_equal(one, two, True)
            self.assert_equal(one, one, True)
            self.assert_equal(one, one.duplicate(), True)

    def test_different(self):
        viewers = [
            folded_viewer(document, height, folds, scroll)
            for document in (EXAMPLE, EXAMPLE[:3] + [(0, "e")], EXAMPLE[:3] + [(1, "d")], EXAMPLE + [(0, "e")])
            for height in (2, 3)
            for folds in ([], [1], [2])
            for scroll in (0, 1)
        ]
        for one, two in itertools.combinations(viewers, 2):
            self.assert_equal(one, two, False)

    def test_what_was_done_does_not_matter(self):
        one, two = Viewer(EXAMPLE, 3), Viewer(EXAMPLE, 3)
        one.toggle(1)
        self.assert_equal(one, two, False)
        one.toggle(1)
        self.assert_equal(one, two, True)
        two.remove(0)
        two.undo()
        self.assert_equal(one, two, True)

    def test_other_values(self):
        class EqualToAll:
            def __eq__(self, other):
                return True

        viewer = Viewer(EXAMPLE, 3)
        state = (EXAMPLE, [], 0)
        for value in (
            None, 0, 4, "", EXAMPLE, tuple(EXAMPLE), state, (3, *state), [], {}, object(), Viewer, plain.Hostile(),
            viewer.view, viewer.document(), EqualToAll(),
        ):
            self.assertIs(viewer == value, False)
            self.assertIs(viewer != value, True)


class LimitsTest(unittest.TestCase):
    def test_200_lines(self):
        for document in ([(0, "a")] * 200, titled(plain.staircase(200)), drawn_document(4700, 200, 5)):
            both = BothViewers(self, document, 30)
            self.assertEqual(len(both.viewer), 200)
            self.assertEqual(both.call("insert", 0, 0, "x"), "TooManyLinesError")
            both.call("toggle", 100)
            both.call("reveal", 29)
            self.assertIs(both.call("remove", 199), None)
            self.assertIs(both.call("insert", 199, 0, "x"), None)
            self.assertEqual(both.call("insert", 200, 0, "x"), "TooManyLinesError")
            both.call("undo")
            self.assertIs(both.call("insert", 0, 0, "x"), None)
            self.assertEqual(len(both.viewer), 200)

    def test_lengths(self):
        for lines in (1, 2, 3, 100, 199, 200):
            viewer = Viewer([(0, "a")] * lines, 400)
            self.assertEqual((len(viewer), len(viewer.view())), (lines, lines))
            self.assertIs(bool(viewer), True)

    def test_one_line(self):
        both = BothViewers(self, [(0, "a")], 1)
        for call, expected in (
            (("remove", 0), "EmptyOutlineError"), (("indent", 0), "InvalidDepthError"), (("outdent", 0), "InvalidDepthError"),
            (("page_down",), "EndError"), (("page_up",), "EndError"), (("reveal", 0), None), (("toggle", 0), None),
            (("insert", 0, 0, "b"), None), (("remove", 1), None), (("insert", 0, 1, "c"), "InvalidDepthError"),
        ):
            self.assertEqual(both.call(*call), expected, call)

    def test_heights(self):
        for height in (1, 2, 199, 200, 201, 399, 400):
            viewer = Viewer([(0, "a")] * 200, height)
            self.assertEqual(len(viewer.view()), min(height, 200))


class NamesTest(unittest.TestCase):
    def test_arguments_by_name(self):
        viewer = Viewer(height=3, document=EXAMPLE)
        self.assertEqual(viewer, Viewer(document=EXAMPLE, height=3))
        viewer.scroll_to(scroll=2)
        self.assertEqual(viewer.scroll(), 2)
        viewer.reveal(line=1)
        self.assertEqual(viewer.scroll(), 0)
        viewer.toggle(line=0)
        self.assertEqual(viewer.folds(), [0])
        viewer.indent(line=3)
        self.assertEqual(viewer.document()[3], (1, "d"))
        viewer.outdent(line=3)
        self.assertEqual(viewer.document(), EXAMPLE)


if __name__ == "__main__":
    unittest.main()
