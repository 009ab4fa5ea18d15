"""Pages: reading an outline in as few views as possible.

The functions that check nothing serve this module and the others: their
callers have checked the arguments.
"""

from stickyheads.errors import InvalidNumberError, TooDeepError
from stickyheads.integers import is_ascending_list, is_integer_from
from stickyheads.outlines import check_line, check_outline
from stickyheads.views import check_height, greatest_scroll, scrolls_for_span


def check_depths(outline, height, line):
    """Raise an error if a line from this one on is too deep for the height."""
    for below in range(line, len(outline)):
        if outline[below] >= height:
            raise TooDeepError(below)


def check_all_shown(outline, height):
    """Raise an error for no outline, for no height, or if a line is too deep for the height."""
    check_outline(outline)
    check_height(height)
    check_depths(outline, height, 0)


def starts_from(outline, height, line):
    """Return the first lines of the pages from a line on; nothing is checked."""
    starts = []
    start = line
    while start < len(outline):
        starts.append(start)
        start += height - outline[start]
    return starts


def page_starts(outline, height, line):
    """Return the list of the first lines of the pages from the line on."""
    check_outline(outline)
    check_height(height)
    check_line(outline, line)
    check_depths(outline, height, line)
    return starts_from(outline, height, line)


def fewest_pages(outline, height):
    """Return the smallest number of scroll positions of a reading."""
    check_all_shown(outline, height)
    return len(starts_from(outline, height, 0))


def is_shown_by(outline, height, scrolls, line):
    """Return whether the line is shown at one of the scroll positions; nothing is checked."""
    span = scrolls_for_span(outline, height, line, line)
    if span is None:
        return False
    least, greatest = span
    return any([least <= scroll <= greatest for scroll in scrolls])


def is_reading(outline, height, value):
    """Return whether the value is a reading; any value is accepted."""
    check_outline(outline)
    check_height(height)
    if not is_ascending_list(value, greatest_scroll(outline)):
        return False
    return all([is_shown_by(outline, height, value, line) for line in range(len(outline))])


def is_witness_list(outline, height, value):
    """Return whether the value is a witness list; any value is accepted."""
    check_outline(outline)
    check_height(height)
    if not is_ascending_list(value, len(outline) - 1):
        return False
    # A view that shows two lines shows all lines between them, so neighbours in the list are enough.
    spans = [scrolls_for_span(outline, height, line, other) for line, other in zip(value, value[1:])]
    return all([span is None for span in spans])


def least_height(outline, pages):
    """Return the smallest height that shows all lines and needs at most so many pages."""
    check_outline(outline)
    if not is_integer_from(pages, 1):
        raise InvalidNumberError("this is not a number of pages")
    height = max(outline) + 1
    # This ends: with a row for each line of the outline, one page is enough.
    while len(starts_from(outline, height, 0)) > pages:
        height += 1
    return height
