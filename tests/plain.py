"""What the tests share: outlines, wrong values, and plain searches.

The plain searches are written from the points 5 and 6 of the document, word by
word and without regard to speed. They use nothing of the package.
"""

import random

EXAMPLE = [0, 1, 2, 2, 1, 0, 1]

SOME_HEIGHTS = (1, 2, 3, 4, 5, 8, 13, 30, 59, 60, 61, 199, 200, 201, 399, 400)


def all_outlines(lines):
    """All outlines with this number of lines."""
    found = [[0]]
    for _ in range(lines - 1):
        found = [[*outline, depth] for outline in found for depth in range(outline[-1] + 2)]
    return found


def small_outlines(most):
    """All outlines with 1 to `most` lines."""
    return [outline for lines in range(1, most + 1) for outline in all_outlines(lines)]


def drawn_outline(seed, lines, deeper):
    """An outline drawn with a fixed seed; `deeper` of 10 lines are deeper than the one before."""
    source = random.Random(seed)
    outline = [0]
    while len(outline) < lines:
        before = outline[-1]
        if source.randrange(10) < deeper:
            outline.append(before + 1)
        else:
            outline.append(source.randrange(max(0, before - 5), before + 1))
    return outline


def staircase(lines):
    """Each line is deeper by one than the line before it."""
    return list(range(lines))


def teeth(lines, depth):
    """The depth climbs to `depth` and falls back to 0, again and again."""
    return [line % (depth + 1) for line in range(lines)]


def hill(lines):
    """The depth climbs by one up to the middle, then it falls by one."""
    return [min(line, lines - 1 - line) for line in range(lines)]


def middle_outlines():
    """Outlines of about 60 lines, of all shapes."""
    drawn = [drawn_outline(seed, 60, deeper) for seed, deeper in ((1, 3), (2, 5), (3, 6), (4, 8))]
    return [[0] * 40, staircase(60), teeth(60, 7), hill(61), [0] + [1] * 59, *drawn]


def large_outlines():
    """Outlines of 200 lines, of all shapes."""
    drawn = [drawn_outline(seed, 200, deeper) for seed, deeper in ((5, 4), (6, 8))]
    return [[0] * 200, staircase(200), teeth(200, 40), hill(200), *drawn]


def plain_headings(outline, line):
    """For each depth less than its own, the last line before it with this depth."""
    return sorted(
        max(above for above in range(line) if outline[above] == depth) for depth in range(outline[line])
    )


def plain_section(outline, line):
    """Up to, but without, the next line that is not deeper than it."""
    ends = [below for below in range(line + 1, len(outline)) if outline[below] <= outline[line]]
    return (line, min(ends, default=len(outline)) - 1)


def plain_children(outline, line):
    """The lines of the section that are deeper by one."""
    first, last = plain_section(outline, line)
    return [below for below in range(first, last + 1) if outline[below] - outline[line] == 1]


def plain_stops(outline):
    """The number minus the depth, for each line."""
    return [line - outline[line] for line in range(len(outline))]


def plain_scrolls(outline):
    """All scroll positions."""
    return range(plain_stops(outline)[-1] + 1)


def plain_top(outline, scroll):
    """The first line whose stop is at least this position."""
    return min(line for line, stop in enumerate(plain_stops(outline)) if stop >= scroll)


def plain_rows(outline, scroll):
    """All rows of an endlessly high view, and how many of them stand above the top line."""
    top = plain_top(outline, scroll)
    rows = plain_headings(outline, top)
    excess = plain_stops(outline)[top] - scroll
    before = list(plain_headings(outline, top - 1)) if excess > 0 else []
    pushed = []
    for _ in range(excess):
        pushed.insert(0, before.pop())
    rows.extend(pushed)
    above = len(rows)
    rows.extend(range(top, len(outline)))
    return rows, above


def plain_positions(outline, height):
    """For each line the ascending list of the scroll positions at which it is shown."""
    positions = [[] for _ in outline]
    for scroll in plain_scrolls(outline):
        rows, above = plain_rows(outline, scroll)
        for line in rows[above:height]:
            positions[line].append(scroll)
    return positions


def ends(values):
    """The tuple of the least and the greatest of the values, or None without values."""
    return (min(values), max(values)) if values else None


class Hostile:
    """An object that must not be asked anything, because it is no valid value."""

    __hash__ = None

    def refuse(self, *rest):
        raise AssertionError("a value of this kind is not to be asked anything")

    __eq__ = __ne__ = __lt__ = __le__ = __gt__ = __ge__ = refuse
    __len__ = __iter__ = __getitem__ = __contains__ = __bool__ = refuse
    __int__ = __index__ = __float__ = __add__ = __radd__ = __sub__ = __rsub__ = refuse


class OtherList(list):
    """Derived from list, hence not exactly a list."""


# No integer at all, whatever the bounds.
NO_INTEGERS = (
    False, True, None, "", "0", "1", b"0", b"1", 0.0, 1.0, 2.0, 1j, float("nan"), float("inf"),
    [], [0], [1], (), (0,), (1,), {}, {0: 0}, {1}, frozenset((1,)), range(1), int, object(), Hostile(),
)

NO_OUTLINES = (
    [], [1], [-1], [2], [200], [0, 2], [0, 3], [0, -1], [0, 1, -1], [0, 1, 3], [0, 0, 2], [0, 1, 2, 0, 2],
    [0, 1, 2, 4, 0], [1, 1], [1, 2], [-1, 0], [0, 10 ** 30], [10 ** 30], [0, -10 ** 30],
    [0] * 201, [0] * 202, list(range(201)), list(range(200)) + [0], [0] * 1000, [0] * 199 + [2], [0] * 200 + [-1],
    [False], [True], [0, True], [0, False], [False, 1], [0, 1, True], [0] * 199 + [True],
    [None], [0, None], ["0"], [0, "1"], [0, ""], [0.0], [0, 1.0], [0, 0.0], [0, b"1"], [0, 1j],
    [[0]], [0, [0]], [0, [1]], [(0,)], [0, (1,)], [0, {}], [0, {0}], [Hostile()], [0, Hostile()], [0, object()],
    (), (0,), (0, 1), (0, 0), OtherList([0]), OtherList([0, 1]), "", "0", "01", b"", b"\0", b"\0\1", bytearray(b"\0"),
    None, True, False, 0, 1, 7, 0.0, 1j, {}, {0: 0}, {0}, frozenset((0,)), range(0), range(1), range(3),
    iter([0]), zip([0]), (depth for depth in [0]), list, object(), Hostile(),
)

# As lines, heights and scroll positions for EXAMPLE, a valid outline of seven lines.
NO_LINES = (-1, 7, 8, -7, -8, 200, 10 ** 30, -10 ** 30, [4], "4", 4.0, *NO_INTEGERS)
NO_HEIGHTS = (0, -1, -3, 401, 402, 10 ** 30, -10 ** 30, [3], "3", 3.0, *NO_INTEGERS)
NO_SCROLLS = (-1, 6, 7, -5, -6, 10 ** 30, -10 ** 30, [2], "2", 2.0, *NO_INTEGERS)
