"""Plain searches for observations and for counting outlines.

They are written from the points 11 and 12 of the document, word by word and
without regard to speed. They use nothing of the package.
"""

import functools
import random

from tests import plain


class OtherTuple(tuple):
    """Derived from tuple, hence not exactly a tuple."""


# No observation at all.
NO_OBSERVATION = (
    (), (0,), (0, 0, 0), (1, 2, 3, 4), (-1, 0), (0, -1), (-1, -1), (-10 ** 30, 0), (0, -10 ** 30), (False, 0),
    (0, False), (True, 1), (1, True), (True, True), (None, 0), (0, None), ("0", 0), (0, "0"), (0.0, 0), (0, 0.0),
    (b"0", 0), (0, 1j), ([0], 0), (0, [0]), ((0, 0),), ((0,), 0), (plain.Hostile(), 0), (0, plain.Hostile()),
    [], [0, 0], [1, 1], OtherTuple((0, 0)), OtherTuple((1, 1)), plain.OtherList([0, 0]), {0: 0, 1: 1}, {0, 1},
    "00", b"00", range(2), iter((0, 0)), 0, 1, -1, None, True, False, 0.0, object(), tuple, plain.Hostile(),
)

# Not even a list of at most 40 items.
NO_SHORT_LISTS = (
    (), ((0, 0),), (0, 0), ((0, 0), (1, 1)), plain.OtherList(), plain.OtherList([(0, 0)]), {}, {0: 0}, {(0, 0): 1},
    set(), {(0, 0)}, frozenset(), "", "00", b"", range(0), iter([(0, 0)]), zip([0], [0]), ((k, k) for k in (0, 1)),
    None, True, False, 0, 1, 0.0, list, object(), plain.Hostile(), [(0, 0)] * 41, [(0, 0)] * 42, [(0, 0)] * 200,
    [(0, 0)] * 40 + [None], [None] * 41, [(0, 0), True] * 21, [plain.Hostile()] * 41,
)

# Each value that is no list of observations, with the index that the error tells.
NO_OBSERVATIONS = (
    *((value, None) for value in NO_SHORT_LISTS),
    *(([item], 0) for item in NO_OBSERVATION),
    *(([(0, 0), (1, 3), item], 2) for item in NO_OBSERVATION),
    *(([item, (1, 3), None], 0) for item in NO_OBSERVATION[:5]),
    *(([(0, 0)] * 39 + [item], 39) for item in NO_OBSERVATION),
    *(([(1, 3)] * 17 + [item] * 23, 17) for item in NO_OBSERVATION[:5]),
)


def is_plain_fit(outline, observations):
    """Whether, for each observation, there is the scroll position and the top line there is this line."""
    return all(
        scroll in plain.plain_scrolls(outline) and plain.plain_top(outline, scroll) == line
        for scroll, line in observations
    )


@functools.lru_cache(maxsize=None)
def kept_outlines(lines):
    """All outlines with this number of lines, each with the top lines at all its scroll positions."""
    return [
        (outline, [plain.plain_top(outline, scroll) for scroll in plain.plain_scrolls(outline)])
        for outline in plain.all_outlines(lines)
    ]


def fitting(lines, observations):
    """All outlines with this number of lines that fit."""
    return [
        outline for outline, tops in kept_outlines(lines)
        if all(scroll < len(tops) and tops[scroll] == line for scroll, line in observations)
    ]


def plain_bounds(lines, observations):
    """The least and the greatest depth of each line, by all outlines."""
    outlines = fitting(lines, observations)
    if not outlines:
        return None
    return [plain.ends([outline[line] for outline in outlines]) for line in range(lines)]


def first_pair(observations, is_impossible):
    """The least tuple of positions of which the observations are impossible, or None."""
    positions = range(len(observations))
    pairs = [(one, other) for one in positions for other in positions if one <= other]
    return next((pair for pair in pairs if is_impossible([observations[at] for at in pair])), None)


def plain_conflict(lines, observations):
    """The least tuple of positions of observations that no outline fits, by all outlines."""
    if fitting(lines, observations):
        return None
    return first_pair(observations, lambda some: not fitting(lines, some))


def is_possible_depth(line, depth, observations):
    """Whether no observation speaks against this depth of the line."""
    stop = line - depth
    return all(
        stop >= scroll if line == observed else stop < scroll or line > observed
        for scroll, observed in observations
    )


def count_by_depths(lines, observations, given=None):
    """The number of outlines that fit, line by line; `given` has the depths that are given for some lines."""
    if any(line >= lines for _, line in observations):
        return 0
    given = given or {}
    many = {-1: 1}
    for line in range(lines):
        longer = {}
        for depth in range(line + 1):
            if given.get(line, depth) == depth and is_possible_depth(line, depth, observations):
                longer[depth] = sum(number for before, number in many.items() if depth <= before + 1)
        many = longer
    return sum(many.values())


def drawn_observations(source, outline, many, changed):
    """Observations of an outline; so many of them are changed."""
    scrolls = plain.plain_scrolls(outline)
    tops = [plain.plain_top(outline, scroll) for scroll in scrolls]
    found = [(scroll, tops[scroll]) for scroll in (source.choice(scrolls) for _ in range(many))]
    for at in source.sample(range(many), min(changed, many)):
        scroll, line = found[at]
        found[at] = source.choice([
            (scroll + 1, line), (max(0, scroll - 1), line), (scroll, line + 1), (scroll, max(0, line - 1)),
            (source.randrange(len(outline) + 2), source.randrange(len(outline) + 2)), (10 ** 30, line), (scroll, 10 ** 30),
        ])
    return found


def some_observations(seeds, most_lines):
    """Tuples of an outline, observations, and how many of them were changed."""
    for seed in seeds:
        source = random.Random(seed)
        outline = plain.drawn_outline(seed, source.randint(1, most_lines), source.randrange(1, 9))
        many = source.choice((0, 1, 2, 3, 5, 10, 20, 39, 40))
        changed = source.choice((0, 0, 0, 1, 1, 2, 3))
        yield outline, drawn_observations(source, outline, many, changed), changed


def allowed_outlines(lines, deepest):
    """All outlines without greater depths, in ascending order."""
    return sorted(outline for outline in plain.all_outlines(lines) if max(outline) <= deepest)


def catalan_row(many):
    """The first numbers 1, 2, 5, 14 .. of the Catalan row, by its sums of products."""
    row = [1]
    while len(row) <= many:
        row.append(sum(row[k] * row[-1 - k] for k in range(len(row))))
    return row[1:]
