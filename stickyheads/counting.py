"""Counting outlines: how many there are, and their order."""

from itertools import accumulate

from stickyheads.integers import check_number
from stickyheads.outlines import MOST_LINES, check_outline

GREATEST_BOUND = 200


def check_lines_and_deepest(lines, deepest):
    """Raise an error if these are not a number of lines and a bound for the depths."""
    check_number(lines, 1, MOST_LINES)
    check_number(deepest, 0, GREATEST_BOUND)


def count_endings(lines, deepest):
    """Return for each line and each depth of it in how many ways an outline goes on after it.

    These are a list for each line, with a number for each depth; nothing is checked.
    """
    endings = [[1] * (deepest + 1)]
    while len(endings) < lines:
        sums = list(accumulate(endings[-1]))
        # The next line may have all depths up to one more, but no greater one than the deepest.
        endings.append(sums[1:] + sums[-1:])
    endings.reverse()
    return endings


def count_outlines(lines, deepest):
    """Return the number of outlines with so many lines and without greater depths."""
    check_lines_and_deepest(lines, deepest)
    return count_endings(lines, deepest)[0][0]


def nth_outline(lines, deepest, index):
    """Return the outline with this index among these, in ascending order."""
    check_lines_and_deepest(lines, deepest)
    endings = count_endings(lines, deepest)
    check_number(index, 0, endings[0][0] - 1)
    outline = [0]
    smaller = index
    for ways in endings[1:]:
        depth = 0
        while smaller >= ways[depth]:
            smaller -= ways[depth]
            depth += 1
        outline.append(depth)
    return outline


def rank_outline(outline, deepest):
    """Return the index of the outline among those with as many lines and without greater depths."""
    check_outline(outline)
    check_number(deepest, max(outline), GREATEST_BOUND)
    endings = count_endings(len(outline), deepest)
    return sum([sum(ways[:depth]) for depth, ways in zip(outline, endings)])
