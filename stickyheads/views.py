"""Views: what is to be seen of an outline at its scroll positions.

All rows above the top line are filled by headings, so the line k, from the
top line on, stands in the row k - scroll.
"""

from stickyheads.errors import InvalidHeightError, InvalidScrollError, TooDeepError
from stickyheads.integers import is_integer_within
from stickyheads.outlines import check_line, check_outline, headings_of, stop_of

MOST_ROWS = 400


def check_height(height):
    """Raise an error if the value is not a height."""
    if not is_integer_within(height, 1, MOST_ROWS):
        raise InvalidHeightError("this is not a height")


def greatest_scroll(outline):
    """Return the greatest scroll position of an outline; nothing is checked."""
    return stop_of(outline, len(outline) - 1)


def check_scroll(outline, scroll):
    """Raise an error if the value is not a scroll position of the outline."""
    if not is_integer_within(scroll, 0, greatest_scroll(outline)):
        raise InvalidScrollError("this is not a scroll position")


def find_top(outline, scroll):
    """Return the top line at a scroll position; nothing is checked."""
    line = 0
    while stop_of(outline, line) < scroll:
        line += 1
    return line


def top_line(outline, scroll):
    """Return the top line at the scroll position."""
    check_outline(outline)
    check_scroll(outline, scroll)
    return find_top(outline, scroll)


def pushed_headings(outline, top, scroll):
    """Return the headings that the top line pushes out; nothing is checked."""
    many = stop_of(outline, top) - scroll
    if many == 0:
        # A slice from -0 on would take all headings, and the line 0 has no line before it.
        return []
    return headings_of(outline, top - 1)[-many:]


def find_rows(outline, height, scroll):
    """Return the lines in the rows of the view; nothing is checked."""
    top = find_top(outline, scroll)
    above = headings_of(outline, top) + pushed_headings(outline, top, scroll)
    rows = above + list(range(top, len(outline)))
    return rows[:height]


def view(outline, height, scroll):
    """Return the lines in the rows of the view."""
    check_outline(outline)
    check_height(height)
    check_scroll(outline, scroll)
    return find_rows(outline, height, scroll)


def shown_lines(outline, height, scroll):
    """Return the first and the last line that are shown, or None."""
    check_outline(outline)
    check_height(height)
    check_scroll(outline, scroll)
    top = find_top(outline, scroll)
    last = min(scroll + height, len(outline)) - 1
    if last < top:
        return None
    return (top, last)


def scrolls_for_span(outline, height, first, last):
    """Return the scroll positions that show all lines from `first` to `last`.

    They are the tuple of the least and the greatest one, or None; nothing is checked.
    """
    # Stops never decrease: up to the stop of the first line, no line of the span is above the top line.
    greatest = stop_of(outline, first)
    least = max(0, last - height + 1)
    if least > greatest:
        return None
    return (least, greatest)


def scrolls_for(outline, height, line):
    """Return the least and the greatest scroll position that show the line, or None."""
    check_outline(outline)
    check_height(height)
    check_line(outline, line)
    return scrolls_for_span(outline, height, line, line)


def scroll_to_show(outline, height, scroll, line):
    """Return the scroll position nearest to `scroll` that shows the line."""
    check_outline(outline)
    check_height(height)
    check_scroll(outline, scroll)
    check_line(outline, line)
    scrolls = scrolls_for_span(outline, height, line, line)
    if scrolls is None:
        raise TooDeepError(line)
    least, greatest = scrolls
    return min(max(scroll, least), greatest)


def scrolls_for_both(outline, height, line, other):
    """Return the least and the greatest scroll position that show both lines, or None."""
    check_outline(outline)
    check_height(height)
    check_line(outline, line)
    check_line(outline, other)
    return scrolls_for_span(outline, height, min(line, other), max(line, other))
