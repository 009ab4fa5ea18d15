"""Shortest readings: how many there are, and their order.

After the view at a scroll position, the first line below it must be in the
next view. So a reading may go on with any later scroll position up to the
stop of that line. No view of a shortest reading could be left out, so none of
its views but the last one shows the last line.
"""

from stickyheads.errors import InvalidReadingError
from stickyheads.integers import check_number
from stickyheads.outlines import stop_of
from stickyheads.pages import check_all_shown, is_reading
from stickyheads.views import greatest_scroll


def count_views_left(outline, height):
    """Return for each scroll position how many more views a reading needs after it.

    These numbers never increase with the scroll position; nothing is checked.
    """
    left = [0] * (greatest_scroll(outline) + 1)
    for scroll in reversed(range(len(outline) - height)):
        left[scroll] = left[stop_of(outline, scroll + height)] + 1
    return left


def followers(outline, height, left, scroll):
    """Return the scroll positions that may come next in a shortest reading, in ascending order."""
    if left[scroll] == 0:
        return []
    furthest = stop_of(outline, scroll + height)
    return [after for after in range(scroll + 1, furthest + 1) if left[after] == left[furthest]]


def count_ways(outline, height, left):
    """Return for each scroll position in how many ways a shortest reading goes on after it."""
    ways = [1] * len(left)
    for scroll in reversed(range(len(outline) - height)):
        ways[scroll] = sum([ways[after] for after in followers(outline, height, left, scroll)])
    return ways


def count_shortest(outline, height):
    """Return the number of shortest readings."""
    check_all_shown(outline, height)
    # Line 0 is shown at no other scroll position than 0, so all readings begin there.
    return count_ways(outline, height, count_views_left(outline, height))[0]


def nth_shortest(outline, height, index):
    """Return the shortest reading with this index, in ascending order."""
    check_all_shown(outline, height)
    left = count_views_left(outline, height)
    ways = count_ways(outline, height, left)
    check_number(index, 0, ways[0] - 1)
    reading = [0]
    smaller = index
    while left[reading[-1]] > 0:
        choices = followers(outline, height, left, reading[-1])
        at = 0
        while smaller >= ways[choices[at]]:
            smaller -= ways[choices[at]]
            at += 1
        reading.append(choices[at])
    return reading


def rank_shortest(outline, height, scrolls):
    """Return the index of a shortest reading."""
    check_all_shown(outline, height)
    left = count_views_left(outline, height)
    if not is_reading(outline, height, scrolls) or len(scrolls) != left[0] + 1:
        raise InvalidReadingError("this is not a shortest reading")
    ways = count_ways(outline, height, left)
    smaller = 0
    for scroll, chosen in zip(scrolls, scrolls[1:]):
        choices = followers(outline, height, left, scroll)
        smaller += sum([ways[after] for after in choices if after < chosen])
    return smaller
