"""Viewers: documents that are scrolled, folded and edited."""

from stickyheads.errors import EmptyHistoryError, EmptyOutlineError, EndError, HiddenLineError, InvalidDepthError
from stickyheads.errors import InvalidLineError, InvalidTitleError, TooDeepError, TooManyLinesError
from stickyheads.folds import folded_outline, lines_left
from stickyheads.integers import is_integer_within
from stickyheads.outlines import MOST_LINES, check_line, is_outline, last_of_section, stop_of
from stickyheads.text import check_document, depths_of, is_title
from stickyheads.views import check_height, check_scroll, find_rows, find_top, greatest_scroll, scroll_to_show


def check_new_depths(document):
    """Raise an error if the depths of a changed document are not an outline."""
    if not is_outline(depths_of(document)):
        raise InvalidDepthError("the depths would not be an outline")


class Viewer:
    """A document with folds, a height and a scroll position.

    A state is a tuple of the document, the folds and the scroll position. The
    lists in states are never changed and never handed out, only replaced: so
    the states before and after an operation may share them, and duplicates too.
    """

    def __init__(self, document, height):
        check_document(document)
        check_height(height)
        self._height = height
        self._document = list(document)
        self._folds = []
        self._scroll = 0
        # The states before the operations that are not undone, the last one at the end.
        self._done = []
        # The states after the operations that are undone, the one undone last at the end.
        self._undone = []

    def __eq__(self, other):
        if not isinstance(other, Viewer):
            return False
        return self._height == other._height and self._state() == other._state()

    def __len__(self):
        return len(self._document)

    def _state(self):
        """Return the state."""
        return (self._document, self._folds, self._scroll)

    def _restore(self, state):
        """Make this the state."""
        self._document, self._folds, self._scroll = state

    def _perform(self, document, folds, scroll):
        """Make these the state, as an operation; all errors have been raised before."""
        greatest = greatest_scroll(folded_outline(depths_of(document), folds))
        self._done.append(self._state())
        self._undone = []
        self._restore((document, folds, min(scroll, greatest)))

    def _left(self):
        """Return the lines of the document that are not hidden."""
        return lines_left(depths_of(self._document), self._folds)

    def _shown(self):
        """Return the shown outline."""
        return folded_outline(depths_of(self._document), self._folds)

    def scroll_to(self, scroll):
        """Change the scroll position."""
        check_scroll(self._shown(), scroll)
        self._perform(self._document, self._folds, scroll)

    def page_down(self):
        """Scroll to the stop of the first shown line below the view."""
        shown = self._shown()
        below = self._scroll + self._height
        if below >= len(shown):
            raise EndError("no line is below the view")
        if shown[below] >= self._height:
            raise TooDeepError(self._left()[below])
        self._perform(self._document, self._folds, stop_of(shown, below))

    def page_up(self):
        """Scroll up by a view, or by less so that no line is left out."""
        if self._scroll == 0:
            raise EndError("no scroll position is before this one")
        top = find_top(self._shown(), self._scroll)
        scroll = max(0, min(self._scroll - 1, top - self._height))
        self._perform(self._document, self._folds, scroll)

    def reveal(self, line):
        """Scroll to the nearest position at which the line is shown."""
        check_line(self._document, line)
        left = self._left()
        if line not in left:
            raise HiddenLineError("this line is hidden by folds")
        shown, place = self._shown(), left.index(line)
        if shown[place] >= self._height:
            raise TooDeepError(line)
        scroll = scroll_to_show(shown, self._height, self._scroll, place)
        self._perform(self._document, self._folds, scroll)

    def toggle(self, line):
        """Fold the line, or unfold it if it is folded."""
        check_line(self._document, line)
        folds = [fold for fold in self._folds if fold != line]
        if len(folds) == len(self._folds):
            folds = sorted(folds + [line])
        self._perform(self._document, folds, self._scroll)

    def insert(self, line, depth, title):
        """Insert a line before the line, or at the end."""
        if not is_integer_within(line, 0, len(self._document)):
            raise InvalidLineError("this is not a place for a line")
        if len(self._document) == MOST_LINES:
            raise TooManyLinesError("there are as many lines as an outline may have")
        document = self._document[:line] + [(depth, title)] + self._document[line:]
        check_new_depths(document)
        if not is_title(title):
            raise InvalidTitleError("this is not a title")
        folds = [fold if fold < line else fold + 1 for fold in self._folds]
        self._perform(document, folds, self._scroll)

    def remove(self, line):
        """Remove the section of the line."""
        check_line(self._document, line)
        after = last_of_section(depths_of(self._document), line) + 1
        document = self._document[:line] + self._document[after:]
        if not document:
            raise EmptyOutlineError("no line would remain")
        above = [fold for fold in self._folds if fold < line]
        below = [fold - (after - line) for fold in self._folds if fold >= after]
        self._perform(document, above + below, self._scroll)

    def _deepen(self, line, levels):
        """Change the depths in the section of the line by so many levels, as an operation."""
        check_line(self._document, line)
        after = last_of_section(depths_of(self._document), line) + 1
        moved = [(depth + levels, title) for depth, title in self._document[line:after]]
        document = self._document[:line] + moved + self._document[after:]
        check_new_depths(document)
        self._perform(document, self._folds, self._scroll)

    def indent(self, line):
        """Make all lines of the section of the line deeper by one."""
        self._deepen(line, 1)

    def outdent(self, line):
        """Make all lines of the section of the line less deep by one."""
        self._deepen(line, -1)

    def undo(self):
        """Undo the last operation that is not undone."""
        if not self._done:
            raise EmptyHistoryError("there is no operation to undo")
        self._undone.append(self._state())
        self._restore(self._done.pop())

    def redo(self):
        """Perform the operation that was undone last again."""
        if not self._undone:
            raise EmptyHistoryError("there is no operation to redo")
        self._done.append(self._state())
        self._restore(self._undone.pop())

    def view(self):
        """Return the lines of the document in the rows of the view."""
        left = self._left()
        return [left[row] for row in find_rows(self._shown(), self._height, self._scroll)]

    def scroll(self):
        """Return the scroll position."""
        return self._scroll

    def document(self):
        """Return the document."""
        return list(self._document)

    def folds(self):
        """Return the folds."""
        return list(self._folds)

    def duplicate(self):
        """Return an independent viewer that is equal in all, also in what can be undone and redone."""
        other = Viewer(self._document, self._height)
        other._restore(self._state())
        other._done = list(self._done)
        other._undone = list(self._undone)
        return other
