"""Plain searches for pages, readings, folds and repeated outlines.

They are written from the points 7 to 10 of the document, word by word and
without regard to speed. They use nothing of the package.
"""

import functools
import itertools
from fractions import Fraction

from tests import plain

# As values of other kinds, for EXAMPLE and its height 3: no readings, no witness lists and no folds.
NO_ASCENDING_LISTS = (
    [-1], [-1, 0], [200], [0, 200], [10 ** 30], [-10 ** 30, 0], [0, 0], [1, 1], [0, 1, 1], [1, 0], [0, 3, 1, 5],
    [5, 3, 1, 0], [0, 1, 3, 5, 3], [False], [True], [0, True], [False, 1], [False, True], [0, True, 3, 5],
    [None], [0, None], ["0"], [0, "1"], [0.0], [0, 1.0], [0, 1, 3.0, 5], [0, b"1"], [0, 1j], [0, float("nan")],
    [[0]], [0, [1]], [(0,)], [0, (1,)], [{}], [0, {1}], [plain.Hostile()], [0, plain.Hostile()], [0, object()],
    (), (0,), (0, 1, 3, 5), (0, 3, 4, 6), (1,), plain.OtherList(), plain.OtherList([0, 1, 3, 5]),
    plain.OtherList([1]), "", "0", "0135", b"", b"\0", b"\0\1\3\5", bytearray(b"\0"), None, True, False, 0, 1, 0.0,
    {}, {0: 0}, {0}, {0, 1, 3, 5}, frozenset((0,)), range(0), range(2), iter([0]), zip([0]), (k for k in [0]),
    list, object(), plain.Hostile(), list(range(1000)), [0] * 1000,
)


def subsets(items):
    """All ascending lists of these items, the shortest first."""
    items = list(items)
    return [list(chosen) for many in range(len(items) + 1) for chosen in itertools.combinations(items, many)]


def first_too_deep(outline, height, line=0):
    """The first line from this one on whose depth is not less than the height, or None."""
    return next((k for k in range(line, len(outline)) if not outline[k] < height), None)


def plain_shown(outline, height):
    """For each scroll position the set of the lines that are shown."""
    return [set(lines) for lines in kept_shown(tuple(outline), height)]


@functools.lru_cache(maxsize=None)
def kept_shown(outline, height):
    found = []
    for scroll in plain.plain_scrolls(outline):
        rows, above = plain.plain_rows(outline, scroll)
        found.append(tuple(rows[above:height]))
    return found


def are_together(outline, height, line, other):
    """Whether one view shows both lines."""
    return any(line in lines and other in lines for lines in kept_shown(tuple(outline), height))


def plain_page_starts(outline, height, line):
    """The pages from a line on, line by line."""
    starts = []
    rows = 0
    for below in range(line, len(outline)):
        if rows == 0:
            starts.append(below)
            rows = height - outline[below]
        rows -= 1
    return starts


def is_plain_ascending(value, allowed):
    """Whether the value is a list of such integers, each greater than the one before."""
    if type(value) is not list or not all(type(item) is int and item in allowed for item in value):
        return False
    return value == sorted(set(value))


def is_plain_reading(outline, height, value):
    """Whether each line is shown in at least one of the views."""
    if not is_plain_ascending(value, plain.plain_scrolls(outline)):
        return False
    shown = kept_shown(tuple(outline), height)
    return {line for scroll in value for line in shown[scroll]} == set(range(len(outline)))


def is_plain_witness_list(outline, height, value):
    """Whether no two of the lines are shown in one view."""
    if not is_plain_ascending(value, range(len(outline))):
        return False
    return all(len([line for line in value if line in lines]) < 2 for lines in kept_shown(tuple(outline), height))


def plain_shortest(outline, height):
    """All shortest readings in ascending order, by trying all sets of scroll positions."""
    readings = [
        scrolls for scrolls in subsets(plain.plain_scrolls(outline)) if is_plain_reading(outline, height, scrolls)
    ]
    return sorted(scrolls for scrolls in readings if len(scrolls) == len(readings[0]))


def plain_number_of_shortest(outline, height):
    """The number of shortest readings, by lengthening lists of scroll positions that leave out no line.

    How a list goes on depends only on its last scroll position and on how far it shows all lines.
    """
    shown = plain_shown(outline, height)
    lists = {(-1, 0): 1}
    while True:
        longer = {}
        for (last, until), many in lists.items():
            for scroll in range(last + 1, len(shown)):
                if shown[scroll] and min(shown[scroll]) <= until:
                    state = (scroll, max(until, max(shown[scroll]) + 1))
                    longer[state] = longer.get(state, 0) + many
        lists = longer
        complete = sum(many for (_, until), many in lists.items() if until == len(outline))
        if complete:
            return complete


def plain_lines_left(outline, folds):
    """The lines of which no heading is folded."""
    return [
        line for line in range(len(outline))
        if not any(heading in folds for heading in plain.plain_headings(outline, line))
    ]


def plain_fewest_folds(outline, height):
    """For each pair of lines that folds can bring together the smallest number of these, by trying all folds."""
    found = {}
    for folds in subsets(range(len(outline))):
        left = plain_lines_left(outline, folds)
        folded = tuple(outline[line] for line in left)
        for lines in kept_shown(folded, height):
            for pair in itertools.product([left[line] for line in lines], repeat=2):
                found.setdefault(pair, len(folds))
    return found


def plain_endless_starts(outline, height, line, many):
    """The first lines of so many pages of the repeated outline, one by one."""
    starts = [line]
    while len(starts) < many:
        starts.append(starts[-1] + height - outline[starts[-1] % len(outline)])
    return starts


def plain_rate(outline, height, line):
    """Pages and repetitions between two pages that begin with the same line of the outline."""
    lines = len(outline)
    starts = plain_endless_starts(outline, height, line, 2 * lines + 1)
    # After as many pages as there are lines, one line of the outline has begun two pages.
    again = next(k for k in range(lines + 1, 2 * lines + 1) if (starts[k] - starts[lines]) % lines == 0)
    rate = Fraction(again - lines, (starts[again] - starts[lines]) // lines)
    return (rate.numerator, rate.denominator)


def plain_cycle_lines(outline, height):
    """The lines that the pages from them on reach again, page by page."""
    lines = len(outline)
    return [
        line for line in range(lines)
        if any(start % lines == line for start in plain_endless_starts(outline, height, line, lines + 1)[1:])
    ]


def plain_meeting(outline, height, line, other):
    """The first line with which pages of both readers begin, page by page, for lines that are not far apart."""
    # Each reader goes around after as many pages as there are lines, at the latest; then all is repeated.
    many = 3 * len(outline) + abs(line - other) + 2
    both = set(plain_endless_starts(outline, height, line, many))
    both &= set(plain_endless_starts(outline, height, other, many))
    return min(both, default=None)


def doubled_jumps(outline, height):
    """For 1, 2, 4, 8 .. pages: how many lines they go on from each line of the outline."""
    lines = len(outline)
    jumps = [[height - depth for depth in outline]]
    for _ in range(110):
        before = jumps[-1]
        jumps.append([before[k] + before[(k + before[k]) % lines] for k in range(lines)])
    return jumps


def start_by_doubling(outline, height, line, number):
    """The first line of a page with a great number."""
    start = line
    for power, jump in enumerate(doubled_jumps(outline, height)):
        if number >> power & 1:
            start += jump[start % len(outline)]
    return start


def pages_by_doubling(outline, height, line, until):
    """The number of pages from a line on that begin before the line `until`."""
    many = 0
    start = line
    for power, jump in reversed(list(enumerate(doubled_jumps(outline, height)))):
        if start + jump[start % len(outline)] < until:
            start += jump[start % len(outline)]
            many += 1 << power
    return many + 1 if line < until else 0


def varied(values, most):
    """Lists with one entry less, more, changed, doubled or exchanged, and the list itself."""
    found = [list(values)]
    for at in range(len(values)):
        found.append(values[:at] + values[at + 1:])
        found.append(values[:at + 1] + values[at:])
        found.extend(values[:at] + [wrong] + values[at + 1:] for wrong in (values[at] - 1, values[at] + 1, most, -1))
        found.append(values[:at] + [bool(values[at])] + values[at + 1:])
        for other in range(at):
            swapped = list(values)
            swapped[at], swapped[other] = swapped[other], swapped[at]
            found.append(swapped)
    found.extend(values[:at] + [more] + values[at:] for at in range(len(values) + 1) for more in range(most + 2))
    return found
