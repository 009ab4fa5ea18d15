"""Repeated outlines: pages that never end.

There are only as many ways for a page to begin as the outline has lines. So
from some page on, the pages go around: after each round the same lines of the
outline begin the pages, a whole number of repetitions later.
"""

from math import gcd

from stickyheads.errors import InvalidLineError
from stickyheads.integers import check_number, is_integer_within
from stickyheads.outlines import check_outline
from stickyheads.pages import check_all_shown, check_depths
from stickyheads.views import check_height

GREATEST = 10 ** 30


def check_endless_line(line):
    """Raise an error if the value is not the number of a line to begin with."""
    if not is_integer_within(line, 0, GREATEST):
        raise InvalidLineError("this is not a line of the repeated outline")


def next_start(outline, height, start):
    """Return the first line of the page after the one that begins with `start`."""
    return start + height - outline[start % len(outline)]


def follow_pages(outline, height, line):
    """Return the tuple `(starts, first, gain)` of the pages from a line on; nothing is checked.

    `starts` are the first lines of the pages until they go around for the first
    time. Those from the index `first` on are the round, and `gain` is the number
    of lines that one round goes on.
    """
    indexes = {}
    starts = []
    start = line
    while start % len(outline) not in indexes:
        indexes[start % len(outline)] = len(starts)
        starts.append(start)
        start = next_start(outline, height, start)
    first = indexes[start % len(outline)]
    return (starts, first, start - starts[first])


def start_of_page(followed, number):
    """Return the first line of the page with this number, of what `follow_pages` found."""
    starts, first, gain = followed
    if number < first:
        return starts[number]
    rounds, step = divmod(number - first, len(starts) - first)
    return starts[first + step] + rounds * gain


def count_pages_before(followed, line):
    """Return how many pages begin before the line, of what `follow_pages` found."""
    starts, first, gain = followed
    many = len([start for start in starts[:first] if start < line])
    for start in starts[first:]:
        # The quotient is rounded up: a page begins with `start`, and again after each gain.
        many += max(0, (line - start + gain - 1) // gain)
    return many


def page_start(outline, height, line, number):
    """Return the first line of the page with this number from the line on."""
    check_outline(outline)
    check_height(height)
    check_endless_line(line)
    check_number(number, 0, GREATEST)
    check_depths(outline, height, 0)
    return start_of_page(follow_pages(outline, height, line), number)


def reading_rate(outline, height):
    """Return how many pages are needed for how many repetitions, in lowest terms."""
    check_all_shown(outline, height)
    starts, first, gain = follow_pages(outline, height, 0)
    pages, repetitions = len(starts) - first, gain // len(outline)
    common = gcd(pages, repetitions)
    return (pages // common, repetitions // common)


def is_in_cycle(outline, height, line):
    """Return whether the pages from a line on reach this line again; nothing is checked."""
    # The line begins the first page, so it is reached again if the round begins there.
    return follow_pages(outline, height, line)[1] == 0


def cycle_lines(outline, height):
    """Return the lines that the pages from them on reach again in a later repetition."""
    check_all_shown(outline, height)
    return [line for line in range(len(outline)) if is_in_cycle(outline, height, line)]


def pages_of_repeats(outline, height, times):
    """Return the fewest pages for so many repetitions of the outline."""
    check_outline(outline)
    check_height(height)
    check_number(times, 1, GREATEST)
    check_depths(outline, height, 0)
    return count_pages_before(follow_pages(outline, height, 0), len(outline) * times)


def search_meeting(outline, height, behind, ahead):
    """Return the first line with which pages from both lines on begin, or None; nothing is checked."""
    seen = set()
    while behind != ahead:
        # What follows depends only on this state, so without a new one there is no meeting.
        state = (behind % len(outline), ahead - behind)
        if state in seen:
            return None
        seen.add(state)
        following = next_start(outline, height, behind)
        behind, ahead = min(following, ahead), max(following, ahead)
    return behind


def first_meeting(outline, height, line, other):
    """Return the first line with which a page of both readers begins, or None."""
    check_outline(outline)
    check_height(height)
    check_endless_line(line)
    check_endless_line(other)
    check_depths(outline, height, 0)
    behind, ahead = min(line, other), max(line, other)
    # The reader behind may have 10 ** 30 lines to go: its pages before the other line are skipped.
    followed = follow_pages(outline, height, behind)
    reached = start_of_page(followed, count_pages_before(followed, ahead))
    return search_meeting(outline, height, ahead, reached)
