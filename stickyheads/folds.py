"""Folds: hiding sections, and bringing two lines into one view."""

from stickyheads.errors import InvalidFoldsError
from stickyheads.integers import is_ascending_list
from stickyheads.outlines import check_line, check_outline, last_of_section
from stickyheads.views import check_height


def lines_left(outline, folds):
    """Return the lines that are not hidden, in ascending order."""
    check_outline(outline)
    if not is_ascending_list(folds, len(outline) - 1):
        raise InvalidFoldsError("these are not folds of the outline")
    found = []
    line = 0
    while line < len(outline):
        found.append(line)
        if line in folds:
            line = last_of_section(outline, line)
        line += 1
    return found


def folded_outline(outline, folds):
    """Return the list of the depths of the lines that are not hidden."""
    return [outline[line] for line in lines_left(outline, folds)]


def folds_between(outline, first, last):
    """Return what can be folded from `first` on without hiding `last`; nothing is checked.

    These are tuples of the number of lines that a fold hides and the folded line.
    """
    # Sections within these are left out: folding the outer one hides more lines.
    found = []
    line = first
    while line < last:
        end = last_of_section(outline, line)
        if end < last:
            found.append((end - line, line))
            line = end
        line += 1
    return found


def fewest_folds(outline, height, line, other):
    """Return the smallest number of folds that show both lines together, or None."""
    folds = folds_to_show(outline, height, line, other)
    return None if folds is None else len(folds)


def folds_to_show(outline, height, line, other):
    """Return folds that show both lines together, as few as possible, or None."""
    check_outline(outline)
    check_height(height)
    check_line(outline, line)
    check_line(outline, other)
    first, last = min(line, other), max(line, other)
    # A page that begins with the first line must reach the last one.
    excess = last - first + 1 - (height - outline[first])
    folds = []
    for hidden, folded in sorted(folds_between(outline, first, last), reverse=True):
        if excess > 0:
            folds.append(folded)
            excess -= hidden
    return sorted(folds) if excess <= 0 else None
