"""All functions of the package, and how to call them rightly and wrongly."""

from stickyheads import counting, errors, folds, observations, outlines, pages, readings, repeats, text, viewer, views
from tests import plain, plain_observations, plain_pages, plain_viewer

# Each function with its parameters, in the order of the document, which is also the order of their errors.
VIEW_FUNCTIONS = (
    (outlines.headings, ("outline", "line")),
    (outlines.section, ("outline", "line")),
    (outlines.children, ("outline", "line")),
    (outlines.stops, ("outline",)),
    (views.top_line, ("outline", "scroll")),
    (views.view, ("outline", "height", "scroll")),
    (views.shown_lines, ("outline", "height", "scroll")),
    (views.scrolls_for, ("outline", "height", "line")),
    (views.scroll_to_show, ("outline", "height", "scroll", "line")),
    (views.scrolls_for_both, ("outline", "height", "line", "other")),
)

PAGE_FUNCTIONS = (
    (pages.page_starts, ("outline", "height", "line")),
    (pages.fewest_pages, ("outline", "height")),
    (pages.is_reading, ("outline", "height", "value")),
    (pages.is_witness_list, ("outline", "height", "value")),
    (pages.least_height, ("outline", "pages")),
    (readings.count_shortest, ("outline", "height")),
    (readings.nth_shortest, ("outline", "height", "index")),
    (readings.rank_shortest, ("outline", "height", "scrolls")),
    (folds.lines_left, ("outline", "folds")),
    (folds.folded_outline, ("outline", "folds")),
    (folds.fewest_folds, ("outline", "height", "line", "other")),
    (folds.folds_to_show, ("outline", "height", "line", "other")),
    (repeats.page_start, ("outline", "height", "line", "number")),
    (repeats.reading_rate, ("outline", "height")),
    (repeats.cycle_lines, ("outline", "height")),
    (repeats.pages_of_repeats, ("outline", "height", "times")),
    (repeats.first_meeting, ("outline", "height", "line", "other")),
)

LATER_FUNCTIONS = (
    (observations.fits, ("outline", "observations")),
    (observations.depth_bounds, ("lines", "observations")),
    (observations.conflict, ("lines", "observations")),
    (observations.count_fitting, ("lines", "observations")),
    (counting.count_outlines, ("lines", "deepest")),
    (counting.nth_outline, ("lines", "deepest", "index")),
    (counting.rank_outline, ("outline", "deepest")),
    (text.format_document, ("document",)),
    (text.parse_document, ("text",)),
    (viewer.Viewer, ("document", "height")),
)

FUNCTIONS = VIEW_FUNCTIONS + PAGE_FUNCTIONS + LATER_FUNCTIONS

OUTLINE_FUNCTIONS = tuple((function, parameters) for function, parameters in FUNCTIONS if parameters[0] == "outline")

# For these functions TooDeepError comes before the errors of the parameters that are named here.
TOO_DEEP = {
    pages.page_starts: (),
    pages.fewest_pages: (),
    readings.count_shortest: (),
    readings.nth_shortest: ("index",),
    readings.rank_shortest: ("scrolls",),
    repeats.page_start: (),
    repeats.reading_rate: (),
    repeats.cycle_lines: (),
    repeats.pages_of_repeats: (),
    repeats.first_meeting: (),
}

ENDLESS = (repeats.page_start, repeats.first_meeting)

# The parameter `value` is missing: any value is accepted there.
ERRORS = {
    "outline": errors.InvalidOutlineError,
    "height": errors.InvalidHeightError,
    "scroll": errors.InvalidScrollError,
    "line": errors.InvalidLineError,
    "other": errors.InvalidLineError,
    "pages": errors.InvalidNumberError,
    "index": errors.InvalidNumberError,
    "scrolls": errors.InvalidReadingError,
    "folds": errors.InvalidFoldsError,
    "number": errors.InvalidNumberError,
    "times": errors.InvalidNumberError,
    "observations": errors.InvalidObservationsError,
    "lines": errors.InvalidNumberError,
    "deepest": errors.InvalidNumberError,
    "document": errors.InvalidDocumentError,
    "text": errors.InvalidTextError,
}

# For EXAMPLE, its height 3 and its four shortest readings.
WRONG = {
    "outline": plain.NO_OUTLINES,
    "height": plain.NO_HEIGHTS,
    "scroll": plain.NO_SCROLLS,
    "line": plain.NO_LINES,
    "other": plain.NO_LINES,
    "pages": (0, -1, -4, -10 ** 30, [4], "4", 4.0, *plain.NO_INTEGERS),
    "index": (-1, -4, 4, 5, 10 ** 30, -10 ** 30, [2], "2", 2.0, *plain.NO_INTEGERS),
    "scrolls": (
        [], [0], [0, 1], [0, 1, 2], [0, 1, 5], [0, 1, 2, 3], [1, 2, 3, 5], [0, 2, 3, 5], [0, 1, 3, 6], [0, 1, 2, 3, 5],
        [0, 1, 2, 3, 4, 5], [0, 1, 2, 4, 4], *plain_pages.NO_ASCENDING_LISTS,
    ),
    "folds": ([7], [0, 7], [1, 8], [6, 7], [0, 1, 2, 3, 4, 5, 6, 7], *plain_pages.NO_ASCENDING_LISTS),
    "number": (-1, -2, 10 ** 30 + 1, 10 ** 30 + 2, -10 ** 30, [5], "5", 5.0, *plain.NO_INTEGERS),
    "times": (0, -1, 10 ** 30 + 1, 10 ** 30 + 2, -10 ** 30, [5], "5", 5.0, *plain.NO_INTEGERS),
    "observations": tuple(value for value, _ in plain_observations.NO_OBSERVATIONS),
    "lines": (0, -1, -7, 61, 62, 201, 10 ** 30, -10 ** 30, [7], "7", 7.0, *plain.NO_INTEGERS),
    "deepest": (-1, -2, 201, 202, 10 ** 30, -10 ** 30, [3], "3", 3.0, *plain.NO_INTEGERS),
    "document": plain_viewer.NO_DOCUMENTS,
    "text": plain_viewer.NO_TEXTS,
}

# Where these bounds differ.
WRONG_FOR = {
    (counting.count_outlines, "lines"): (0, -1, -7, 201, 202, 10 ** 30, -10 ** 30, [7], *plain.NO_INTEGERS),
    (counting.nth_outline, "lines"): (0, -1, -7, 201, 202, 10 ** 30, -10 ** 30, [7], *plain.NO_INTEGERS),
    # There are 365 outlines of seven lines without depths greater than 3.
    (counting.nth_outline, "index"): (-1, -2, -365, 365, 366, 10 ** 30, -10 ** 30, [2], "2", 2.0, *plain.NO_INTEGERS),
    (counting.rank_outline, "deepest"): (1, 0, -1, 201, 202, 10 ** 30, -10 ** 30, [3], *plain.NO_INTEGERS),
}

NO_ENDLESS_LINES = (-1, -7, 10 ** 30 + 1, 10 ** 30 + 2, -10 ** 30, [4], "4", 4.0, *plain.NO_INTEGERS)


def checked(parameters):
    """Those of the parameters for which not any value is accepted."""
    return [name for name in parameters if name in ERRORS]


def wrong_values(function, name):
    """What must not be passed to a function, if the other arguments are right."""
    if function in ENDLESS and name in ("line", "other"):
        return NO_ENDLESS_LINES
    return WRONG_FOR.get((function, name), WRONG[name])


def right_arguments(parameters):
    """Valid arguments for these parameters, by name."""
    right = {
        "outline": list(plain.EXAMPLE), "height": 3, "scroll": 2, "line": 4, "other": 1, "value": [0, 1, 3, 5],
        "pages": 3, "index": 2, "scrolls": [0, 1, 2, 5], "folds": [1, 5], "number": 5, "times": 2, "lines": 7,
        "observations": [(1, 3), (3, 4)], "deepest": 3, "document": list(plain_viewer.EXAMPLE), "text": "a\n  b\nc d",
    }
    return {name: right[name] for name in parameters}


def bounds(outline):
    """The least and the greatest valid value for each parameter of the functions on views but the outline."""
    lines = (0, len(outline) - 1)
    scrolls = (0, len(outline) - 1 - outline[-1])
    return {"height": (1, 400), "scroll": scrolls, "line": lines, "other": lines}


def error_of(function, arguments):
    """The error that a call with these arguments raises by position and by name, or None."""
    found = []
    for positional in (True, False):
        try:
            function(*arguments.values()) if positional else function(**arguments)
            found.append(None)
        except errors.StickyHeadsError as error:
            found.append(error)
    if type(found[0]) is not type(found[1]):
        raise AssertionError("a call by name differs from a call by position")
    return found[0]
