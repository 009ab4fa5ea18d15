"""The errors of viewers: points 3 and 13, and the errors of each method in their order."""

import itertools
import unittest

from stickyheads import errors
from stickyheads.viewer import Viewer
from tests import plain, plain_viewer
from tests.plain_viewer import EXAMPLE, drawn_document, titled

PARAMETERS = {
    "scroll_to": ("scroll",), "page_down": (), "page_up": (), "reveal": ("line",), "toggle": ("line",),
    "insert": ("line", "depth", "title"), "remove": ("line",), "indent": ("line",), "outdent": ("line",),
    "undo": (), "redo": (),
}
BY_POSITION_ONLY = ("insert", "remove")
NO_DEPTHS = (-1, -2, 200, 10 ** 30, -10 ** 30, [1], "1", 1.0, *plain.NO_INTEGERS)


def state(viewer):
    return (viewer.document(), viewer.folds(), viewer.scroll(), viewer.view(), len(viewer))


def walk(viewer, name):
    """The states after undo or redo, as often as there is something to undo or redo."""
    found = []
    try:
        while True:
            getattr(viewer, name)()
            found.append(state(viewer))
    except errors.EmptyHistoryError:
        return found


def everything(viewer):
    """The state of a viewer, and all states that it can go back and forth to."""
    return (state(viewer), walk(viewer.duplicate(), "undo"), walk(viewer.duplicate(), "redo"))


def busy_viewer(document=EXAMPLE, height=3):
    """A viewer with operations and with undone operations, at its first scroll position and without folds."""
    viewer = Viewer(document, height)
    for line in (0, 1, 0, 1, 0, 1):
        viewer.toggle(line)
    viewer.undo()
    viewer.undo()
    return viewer


class ErrorsTest(unittest.TestCase):
    def fails(self, viewer, name, arguments, kind, line=None):
        """Check that the call raises this very class, by position and by name, and that nothing changes."""
        before, given = everything(viewer), repr(arguments)
        for positional in (True, False):
            if positional or name not in BY_POSITION_ONLY:
                with self.assertRaises(errors.StickyHeadsError) as caught:
                    if positional:
                        getattr(viewer, name)(*arguments)
                    else:
                        getattr(viewer, name)(**dict(zip(PARAMETERS[name], arguments)))
                error = caught.exception
                self.assertIs(type(error), kind, (name, before[0]))
                self.assertIsInstance(error, ValueError)
                self.assertEqual(getattr(error, "line", None), line)
                self.assertEqual(everything(viewer), before)
                self.assertEqual(repr(arguments), given)


class ConstructorTest(unittest.TestCase):
    def fails(self, document, height, kind):
        for call in (lambda: Viewer(document, height), lambda: Viewer(height=height, document=document)):
            with self.assertRaises(errors.StickyHeadsError) as caught:
                call()
            self.assertIs(type(caught.exception), kind)

    def test_documents(self):
        for document in plain_viewer.NO_DOCUMENTS:
            for height in (3, 0, True, None):
                with self.subTest(kind=type(document), height=height):
                    self.fails(document, height, errors.InvalidDocumentError)

    def test_heights(self):
        for height in plain.NO_HEIGHTS:
            with self.subTest(kind=type(height)):
                self.fails(list(EXAMPLE), height, errors.InvalidHeightError)


class LinesTest(ErrorsTest):
    NO_LINES = (-1, 4, 5, -4, 200, 10 ** 30, -10 ** 30, [1], "1", 1.0, *plain.NO_INTEGERS)

    def test_no_lines(self):
        viewer = busy_viewer()
        for name in ("reveal", "toggle", "remove", "indent", "outdent"):
            for line in self.NO_LINES:
                with self.subTest(name=name, kind=type(line)):
                    self.fails(viewer, name, (line,), errors.InvalidLineError)

    def test_no_places(self):
        viewer = busy_viewer()
        for line in (-1, 5, 6, 200, 10 ** 30, -10 ** 30, [1], "1", 1.0, *plain.NO_INTEGERS):
            for depth, title in ((0, "x"), (9, "x"), (True, ""), (None, None)):
                with self.subTest(kind=type(line)):
                    self.fails(viewer, "insert", (line, depth, title), errors.InvalidLineError)

    def test_lines_of_the_document_and_not_of_the_shown_outline(self):
        viewer = busy_viewer(titled([0, 1, 1, 1, 0]))
        viewer.toggle(0)
        for name in ("toggle", "indent", "outdent", "remove"):
            copied = viewer.duplicate()
            getattr(copied, name)(3)
            self.fails(viewer, name, (5,), errors.InvalidLineError)

    def test_no_scroll_positions(self):
        viewer = busy_viewer()
        for scroll in (-1, 4, 5, -3, 10 ** 30, -10 ** 30, [1], "1", 1.0, *plain.NO_INTEGERS):
            with self.subTest(kind=type(scroll)):
                self.fails(viewer, "scroll_to", (scroll,), errors.InvalidScrollError)
        viewer.scroll_to(3)

    def test_scroll_positions_of_the_shown_outline(self):
        viewer = busy_viewer(titled([0, 1, 1, 1, 0]))
        viewer.scroll_to(4)
        viewer.toggle(0)
        for scroll in (2, 3, 4):
            self.fails(viewer, "scroll_to", (scroll,), errors.InvalidScrollError)
        viewer.scroll_to(1)
        viewer.toggle(0)
        viewer.scroll_to(4)

    def test_empty_history(self):
        viewer = Viewer(EXAMPLE, 3)
        self.fails(viewer, "undo", (), errors.EmptyHistoryError)
        self.fails(viewer, "redo", (), errors.EmptyHistoryError)
        viewer.toggle(0)
        self.fails(viewer, "redo", (), errors.EmptyHistoryError)
        viewer.undo()
        self.fails(viewer, "undo", (), errors.EmptyHistoryError)
        viewer.redo()
        self.fails(viewer, "redo", (), errors.EmptyHistoryError)


class PagesTest(ErrorsTest):
    def test_ends(self):
        for lines, height in itertools.product((1, 2, 3, 7), (1, 2, 3, 8)):
            viewer = busy_viewer([(0, "a")] * max(lines, 2), height)
            self.fails(viewer, "page_up", (), errors.EndError)
            for scroll in range(len(viewer)):
                viewer.scroll_to(scroll)
                if scroll + height >= len(viewer):
                    self.fails(viewer, "page_down", (), errors.EndError)
                else:
                    viewer.page_down()
                    self.assertEqual(viewer.scroll(), scroll + height)
                    viewer.undo()

    def test_too_deep(self):
        viewer = busy_viewer(titled([0, 1, 1, 0, 1, 2, 3, 3]), 2)
        viewer.scroll_to(3)
        self.fails(viewer, "page_down", (), errors.TooDeepError, 5)
        viewer.toggle(0)
        viewer.scroll_to(1)
        self.fails(viewer, "page_down", (), errors.TooDeepError, 5)

    def test_the_end_comes_first(self):
        viewer = busy_viewer(titled([0, 1, 2, 3]), 2)
        self.fails(viewer, "page_down", (), errors.TooDeepError, 2)
        viewer.toggle(1)
        self.fails(viewer, "page_down", (), errors.EndError)

    def test_the_bound_of_the_depth(self):
        document = titled(plain.staircase(200))
        for height in (1, 2, 100, 199):
            viewer = busy_viewer(document, height)
            self.fails(viewer, "page_down", (), errors.TooDeepError, height)
            self.fails(viewer, "reveal", (height,), errors.TooDeepError, height)
            viewer.reveal(height - 1)
        self.fails(busy_viewer(document, 200), "page_down", (), errors.EndError)


class RevealTest(ErrorsTest):
    def test_hidden(self):
        viewer = busy_viewer(titled([0, 1, 2, 3, 0, 1]), 2)
        viewer.toggle(1)
        for line in (2, 3):
            self.fails(viewer, "reveal", (line,), errors.HiddenLineError)
        viewer.toggle(0)
        for line in (1, 2, 3):
            self.fails(viewer, "reveal", (line,), errors.HiddenLineError)
        viewer.toggle(1)
        for line in (1, 2, 3):
            self.fails(viewer, "reveal", (line,), errors.HiddenLineError)
        viewer.toggle(0)
        for line in (2, 3):
            self.fails(viewer, "reveal", (line,), errors.TooDeepError, line)
        viewer.reveal(1)

    def test_a_folded_line_is_not_hidden(self):
        viewer = busy_viewer(titled([0, 1, 2]), 2)
        viewer.toggle(1)
        viewer.reveal(1)
        viewer.toggle(2)
        self.fails(viewer, "reveal", (2,), errors.HiddenLineError)

    def test_too_deep_has_the_number_in_the_document(self):
        viewer = busy_viewer(titled([0, 1, 1, 0, 1, 2]), 2)
        viewer.toggle(0)
        self.fails(viewer, "reveal", (5,), errors.TooDeepError, 5)


class InsertTest(ErrorsTest):
    def test_too_many_lines(self):
        viewer = busy_viewer([(0, "a")] * 200)
        for line, depth, title in itertools.product((0, 100, 199, 200), (0, 1, -1, True, None), ("x", "", None)):
            self.fails(viewer, "insert", (line, depth, title), errors.TooManyLinesError)
        for line in (-1, 201, True, None, "0"):
            self.fails(viewer, "insert", (line, 0, "x"), errors.InvalidLineError)
        viewer.remove(0)
        viewer.insert(199, 0, "x")
        self.fails(viewer, "insert", (0, 0, "x"), errors.TooManyLinesError)

    def test_hidden_lines_count(self):
        viewer = busy_viewer([(0, "a")] + [(1, "b")] * 199)
        viewer.toggle(0)
        self.assertEqual(viewer.view(), [0])
        self.fails(viewer, "insert", (1, 1, "x"), errors.TooManyLinesError)

    def test_depths(self):
        viewer = busy_viewer()
        for line in range(5):
            for depth in NO_DEPTHS:
                for title in ("x", "", " x", None, 1):
                    with self.subTest(line=line, kind=type(depth)):
                        self.fails(viewer, "insert", (line, depth, title), errors.InvalidDepthError)

    def test_depths_that_make_no_outline(self):
        for document in (EXAMPLE, titled([0, 1, 2, 3, 1, 2, 0, 0]), drawn_document(4800, 15, 6)):
            viewer = busy_viewer(document)
            for line, depth in itertools.product(range(len(document) + 1), range(-1, 6)):
                depths = [each for each, _ in document]
                depths.insert(line, depth)
                for title in ("x", "", "\t"):
                    if not plain_viewer.is_plain_outline(depths):
                        self.fails(viewer, "insert", (line, depth, title), errors.InvalidDepthError)
                    elif title == "x":
                        copied = viewer.duplicate()
                        copied.insert(line, depth, title)
                        self.assertEqual([each for each, _ in copied.document()], depths)
                    else:
                        self.fails(viewer, "insert", (line, depth, title), errors.InvalidTitleError)

    def test_titles(self):
        viewer = busy_viewer()
        for line, depth in ((0, 0), (2, 1), (2, 2), (4, 0), (4, 1)):
            for title in plain_viewer.NO_TITLES:
                with self.subTest(kind=type(title)):
                    self.fails(viewer, "insert", (line, depth, title), errors.InvalidTitleError)
            for title in plain_viewer.SOME_TITLES:
                viewer.insert(line, depth, title)
                self.assertEqual(viewer.document()[line], (depth, title))
                viewer.undo()


class RemoveTest(ErrorsTest):
    def test_no_line_would_remain(self):
        for outline in [*plain.small_outlines(5), plain.staircase(200), [0] + [1] * 199]:
            viewer = Viewer(titled(outline), 3)
            if plain.plain_section(outline, 0) == (0, len(outline) - 1):
                viewer.toggle(0)
                viewer.undo()
                self.fails(viewer, "remove", (0,), errors.EmptyOutlineError)
                self.fails(viewer, "remove", (len(outline),), errors.InvalidLineError)
            else:
                viewer.remove(0)
                self.assertEqual(viewer.document()[0][0], 0)


class IndentTest(ErrorsTest):
    def test_depths(self):
        for outline in plain.small_outlines(5):
            document = titled(outline)
            viewer = Viewer(document, 3)
            viewer.toggle(0)
            viewer.undo()
            for line in range(len(outline)):
                first, last = plain.plain_section(outline, line)
                for name, levels in (("indent", 1), ("outdent", -1)):
                    depths = [depth + levels * (first <= at <= last) for at, depth in enumerate(outline)]
                    if plain_viewer.is_plain_outline(depths):
                        copied = viewer.duplicate()
                        getattr(copied, name)(line)
                        self.assertEqual(copied.document(), titled(depths))
                    else:
                        self.fails(viewer, name, (line,), errors.InvalidDepthError)

    def test_first_line(self):
        for lines in (2, 3, 200):
            viewer = busy_viewer([(0, "a")] * lines)
            self.fails(viewer, "indent", (0,), errors.InvalidDepthError)
            self.fails(viewer, "outdent", (0,), errors.InvalidDepthError)
            self.fails(viewer, "outdent", (1,), errors.InvalidDepthError)


class UndoneTest(ErrorsTest):
    """After an error, what was undone can still be redone, and what was done can still be undone."""

    def test_redo_after_each_error(self):
        wrong = (
            ("scroll_to", 9), ("page_up",), ("reveal", 9), ("toggle", True), ("insert", 9, 0, "x"), ("insert", 0, 1, "x"),
            ("insert", 0, 0, ""), ("remove", None), ("indent", 0), ("outdent", 0),
        )
        for name, *arguments in wrong:
            viewer = Viewer(EXAMPLE, 3)
            viewer.toggle(1)
            viewer.insert(0, 0, "new")
            viewer.undo()
            with self.assertRaises(errors.StickyHeadsError):
                getattr(viewer, name)(*arguments)
            viewer.redo()
            self.assertEqual((viewer.document()[0], viewer.folds()), ((0, "new"), [2]))
            viewer.undo()
            viewer.undo()
            self.assertEqual((viewer.document(), viewer.folds()), (EXAMPLE, []))
            self.fails(viewer, "undo", (), errors.EmptyHistoryError)


if __name__ == "__main__":
    unittest.main()
