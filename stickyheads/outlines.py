"""Outlines: lines with depths, and how they belong together.

The functions that check nothing serve this module and the others: their
callers have checked the arguments.
"""

from stickyheads.errors import InvalidLineError, InvalidOutlineError
from stickyheads.integers import is_integer_within

MOST_LINES = 200


def is_outline(value):
    """Return whether the value is an outline; any value is accepted."""
    # An object of a class derived from list is not exactly a list.
    if type(value) != list or not 1 <= len(value) <= MOST_LINES:
        return False
    greatest = 0
    for depth in value:
        if not is_integer_within(depth, 0, greatest):
            return False
        greatest = depth + 1
    return True


def check_outline(outline):
    """Raise an error if the value is not an outline."""
    if not is_outline(outline):
        raise InvalidOutlineError("this is not an outline")


def check_line(outline, line):
    """Raise an error if the value is not the number of a line of the outline."""
    if not is_integer_within(line, 0, len(outline) - 1):
        raise InvalidLineError("this is not the number of a line")


def stop_of(outline, line):
    """Return the stop of a line; nothing is checked."""
    return line - outline[line]


def headings_of(outline, line):
    """Return the headings of a line, in ascending order; nothing is checked."""
    found = []
    wanted = outline[line] - 1
    # Depths grow by at most one, so each heading stands before the next deeper one.
    for above in reversed(range(line)):
        if outline[above] == wanted:
            found.append(above)
            wanted -= 1
    found.reverse()
    return found


def headings(outline, line):
    """Return the headings of the line, in ascending order."""
    check_outline(outline)
    check_line(outline, line)
    return headings_of(outline, line)


def last_of_section(outline, line):
    """Return the last line of the section of a line; nothing is checked."""
    last = line
    while last + 1 < len(outline) and outline[last + 1] > outline[line]:
        last += 1
    return last


def section(outline, line):
    """Return the first and the last line of the section of the line."""
    check_outline(outline)
    check_line(outline, line)
    return (line, last_of_section(outline, line))


def children(outline, line):
    """Return the lines of the section that are deeper than the line by one."""
    check_outline(outline)
    check_line(outline, line)
    last = last_of_section(outline, line)
    return [below for below in range(line + 1, last + 1) if outline[below] == outline[line] + 1]


def stops(outline):
    """Return the list of the stops of all lines."""
    check_outline(outline)
    return [stop_of(outline, line) for line in range(len(outline))]
