"""The errors that the package raises."""


class StickyHeadsError(ValueError):
    """The base of all errors of the package."""


class InvalidOutlineError(StickyHeadsError):
    """A value is not an outline."""


class InvalidLineError(StickyHeadsError):
    """A value is not the number of a line."""


class InvalidHeightError(StickyHeadsError):
    """A value is not a height."""


class InvalidScrollError(StickyHeadsError):
    """A value is not a scroll position."""


class InvalidNumberError(StickyHeadsError):
    """A value is not a number, or not within its bounds."""


class InvalidReadingError(StickyHeadsError):
    """A value is not a shortest reading."""


class InvalidFoldsError(StickyHeadsError):
    """A value is not a list of folds."""


class InvalidDocumentError(StickyHeadsError):
    """A value is not a document."""


class InvalidTitleError(StickyHeadsError):
    """A value is not a title."""


class InvalidDepthError(StickyHeadsError):
    """The depths would not be an outline."""


class InvalidTextError(StickyHeadsError):
    """A value is not the text of a document."""


class HiddenLineError(StickyHeadsError):
    """A line is hidden by folds."""


class EndError(StickyHeadsError):
    """There is nothing further in this direction."""


class TooManyLinesError(StickyHeadsError):
    """There would be more lines than an outline may have."""


class EmptyOutlineError(StickyHeadsError):
    """No line would remain."""


class EmptyHistoryError(StickyHeadsError):
    """There is nothing to undo or to redo."""


class TooDeepError(StickyHeadsError):
    """A line is too deep for the height; `line` is its number."""

    def __init__(self, line):
        super().__init__("a line is too deep for the height")
        self.line = line


class InvalidObservationsError(StickyHeadsError):
    """A value is not a list of observations.

    `index` is the position of the first item that is not an observation,
    or None if the value is not a list of the right length.
    """

    def __init__(self, index):
        super().__init__("these are not observations")
        self.index = index
