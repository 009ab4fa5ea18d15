"""Observations: which outlines fit top lines that were seen, and which of these contradict each other.

An outline is told by the stops of its lines: they never decrease, and the stop
of the line k is from 0 to k. A line is the top line at a scroll position if its
own stop is at least this position and the stop of the line before it is less.
So each observation bounds two stops, and what holds for one stop bounds those
before or after it.
"""

from stickyheads.errors import InvalidObservationsError
from stickyheads.integers import check_number, is_integer_from
from stickyheads.outlines import check_outline
from stickyheads.views import find_top, greatest_scroll

MOST_OBSERVED_LINES = 60
MOST_OBSERVATIONS = 40


def is_observation(value):
    """Return whether the value is an observation."""
    # An object of a class derived from tuple is not exactly a tuple.
    if type(value) != tuple or len(value) != 2:
        return False
    return all([is_integer_from(item, 0) for item in value])


def check_observations(observations):
    """Raise an error if the value is not a list of observations."""
    if type(observations) != list or len(observations) > MOST_OBSERVATIONS:
        raise InvalidObservationsError(None)
    for index, item in enumerate(observations):
        if not is_observation(item):
            raise InvalidObservationsError(index)


def check_lines_and_observations(lines, observations):
    """Raise an error if these are not a number of lines and observations."""
    check_number(lines, 1, MOST_OBSERVED_LINES)
    check_observations(observations)


def fits(outline, observations):
    """Return whether the outline fits."""
    check_outline(outline)
    check_observations(observations)
    greatest = greatest_scroll(outline)
    return all([scroll <= greatest and find_top(outline, scroll) == line for scroll, line in observations])


def bound_stops(lines, observations):
    """Return the least and the greatest stop of each line among the outlines that fit.

    They are a list of tuples, or None if no outline fits; nothing is checked.
    """
    least = [0] * lines
    greatest = list(range(lines))
    for scroll, line in observations:
        if line >= lines:
            return None
        least[line] = max(least[line], scroll)
        if line > 0:
            greatest[line - 1] = min(greatest[line - 1], scroll - 1)
    for line in range(1, lines):
        least[line] = max(least[line], least[line - 1])
    for line in reversed(range(lines - 1)):
        greatest[line] = min(greatest[line], greatest[line + 1])
    bounds = list(zip(least, greatest))
    return bounds if all([low <= high for low, high in bounds]) else None


def depth_bounds(lines, observations):
    """Return the least and the greatest depth of each line among the outlines that fit, or None."""
    check_lines_and_observations(lines, observations)
    bounds = bound_stops(lines, observations)
    if bounds is None:
        return None
    return [(line - high, line - low) for line, (low, high) in enumerate(bounds)]


def conflict(lines, observations):
    """Return the least tuple of positions of observations that no outline fits, or None."""
    check_lines_and_observations(lines, observations)
    # Bounds exclude each other if one is too high and another too low: two observations are enough.
    for one, first in enumerate(observations):
        for other in range(one, len(observations)):
            if bound_stops(lines, [first, observations[other]]) is None:
                return (one, other)
    return None


def count_fitting(lines, observations):
    """Return the number of outlines with this number of lines that fit."""
    check_lines_and_observations(lines, observations)
    bounds = bound_stops(lines, observations)
    if bounds is None:
        return 0
    # For each stop: the number of ways to choose stops so far that end with this one.
    ways = [1]
    for low, high in bounds:
        ways = [sum(ways[:stop + 1]) if low <= stop <= high else 0 for stop in range(lines)]
    return sum(ways)
