"""All functions of the package, and how to call them rightly and wrongly."""

from stickyheads import errors, outlines, views
from tests import plain

# Each function with its parameters, in the order of the document, which is also the order of their errors.
FUNCTIONS = (
    (outlines.headings, ("outline", "line")),
    (outlines.section, ("outline", "line")),
    (outlines.children, ("outline", "line")),
    (outlines.stops, ("outline",)),
    (views.top_line, ("outline", "scroll")),
    (views.view, ("outline", "height", "scroll")),
    (views.shown_lines, ("outline", "height", "scroll")),
    (views.scrolls_for, ("outline", "height", "line")),
    (views.scroll_to_show, ("outline", "height", "scroll", "line")),
    (views.scrolls_for_both, ("outline", "height", "line", "other")),
)

ERRORS = {
    "outline": errors.InvalidOutlineError,
    "height": errors.InvalidHeightError,
    "scroll": errors.InvalidScrollError,
    "line": errors.InvalidLineError,
    "other": errors.InvalidLineError,
}

WRONG = {
    "outline": plain.NO_OUTLINES,
    "height": plain.NO_HEIGHTS,
    "scroll": plain.NO_SCROLLS,
    "line": plain.NO_LINES,
    "other": plain.NO_LINES,
}


def right_arguments(parameters):
    """Valid arguments for these parameters, by name."""
    right = {"outline": list(plain.EXAMPLE), "height": 3, "scroll": 2, "line": 4, "other": 1}
    return {name: right[name] for name in parameters}


def bounds(outline):
    """The least and the greatest valid value for each parameter but the outline."""
    lines = (0, len(outline) - 1)
    scrolls = (0, len(outline) - 1 - outline[-1])
    return {"height": (1, 400), "scroll": scrolls, "line": lines, "other": lines}
