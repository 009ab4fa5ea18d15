"""A plain viewer, plain documents and their texts.

They are written from the points 13 and 14 of the document, word by word and
without regard to speed. They use nothing of the package.
"""

import random
import string

from tests import plain
from tests.plain_observations import OtherTuple

EXAMPLE = [(0, "a"), (1, "b"), (2, "c"), (0, "d")]


class OtherText(dict):
    """Not a string, although it can be asked some of what a string can be asked."""

    def strip(self, *rest):
        return "a"

    split = lstrip = strip


NO_TITLES = (
    "", " ", "  ", " a", "a ", " a ", "  a", "a  ", "\t", "\n", "\ta", "a\t", "a\tb", "\na", "a\n", "a\nb", "a" * 21,
    "a" * 22, "a" * 4000, " " + "a" * 19, "a" * 19 + " ", " " + "a" * 20, "a" * 20 + " ", " " * 20, "a" * 10 + "\t",
    None, True, False, 0, 1, 0.0, b"a", b"", bytearray(b"a"), [], ["a"], (), ("a",), {}, {"a"}, {"a": 1}, OtherText(),
    iter("a"), range(1), str, object(), plain.Hostile(),
)

SOME_TITLES = (
    "a", "b", "A", "Z", "0", "~", "!", ".", "a b", "a  b", "- -", "a" * 20, "a" + " " * 18 + "b", "abcdefghij 123456789",
    "\"'\\", "(0, 'a')", "$&*+,/:;<=>?@[]^_`{|}#", "1", "None", "True",
)
SOME_TITLES = tuple(title[:20].strip(" ") for title in SOME_TITLES)

NO_DOCUMENTS = (
    [], [()], [(0,)], [(0, "a", "b")], [(0, "a", 0)], [("a",)], [("a", 0)], [(1, "a")], [(-1, "a")], [(200, "a")],
    [(0, "a"), (2, "b")], [(0, "a"), (-1, "b")], [(0, "a"), (1, "b"), (3, "c")], [(0, "a"), (10 ** 30, "b")],
    [(False, "a")], [(True, "a")], [(0, "a"), (True, "b")], [(0, "a"), (False, "b")], [(None, "a")], [("0", "a")],
    [(0.0, "a")], [(0, "a"), (1.0, "b")], [((0,), "a")], [([0], "a")], [(plain.Hostile(), "a")],
    [[0, "a"]], [(0, "a"), [1, "b"]], [OtherTuple((0, "a"))], [(0, "a"), OtherTuple((1, "b"))], ["0a"], [0], [0, 1],
    [None], ["a"], [{0: "a"}], [{0: "a", 1: "b"}], [plain.Hostile()], [(0, "a"), None], [(0, "a"), plain.Hostile()],
    ((0, "a"),), (0, "a"), (), plain.OtherList([(0, "a")]), plain.OtherList(), {0: "a"}, {(0, "a")}, {}, "a", "", b"a",
    None, True, False, 0, 1, 0.0, iter([(0, "a")]), zip([0], ["a"]), ((0, title) for title in "a"), range(1), list,
    object(), plain.Hostile(), [(0, "a")] * 201, [(0, "a")] * 202, [(line, "a") for line in range(201)],
    [(0, "a")] * 199 + [(2, "a")], [(0, "a")] * 199 + [(0, "a ")], [(0, "a")] * 199 + [(True, "a")],
    *([(0, title)] for title in NO_TITLES), *([(0, "a"), (1, title)] for title in NO_TITLES),
)

# Texts of no document, for one reason each; test_text.py makes many more of them.
NO_TEXTS = (
    "", "\n", " ", "  ", "\t", "a\n", "\na", "a\n\nb", "a\n ", "a\n  ", "a\n\n", " a", "  a", "   a", "\ta", "a\n b",
    "a\n   b", "a\n    b", "a\n  b\n      c", "a\n  b\n   c", "a\n\tb", "a\n  \tb", "a\tb", "a ", "a  ", "a \nb", "a\nb ",
    "a\n  b ", "a" * 21, "a\n" + "b" * 21, "a\n  " + "b" * 21, "a" * 4000, "a\n" * 201 + "a", "\n".join(["a"] * 201),
    "\n".join(["a"] * 200) + "\n", "a\n" * 1999 + "a", " " * 4000, "\n" * 4000, "a" * 20 + " ",
    None, True, False, 0, 1, 0.0, b"a", b"", bytearray(b"a"), [], ["a"], [(0, "a")], (), ("a",), {}, {"a"}, OtherText(),
    iter("a"), range(1), str, object(), plain.Hostile(),
)


def is_plain_title(value):
    """1 to 20 characters, no tabs, no newlines, no space at the ends."""
    if type(value) is not str or not 1 <= len(value) <= 20:
        return False
    return not any(sign in "\t\n" for sign in value) and value[0] != " " and value[-1] != " "


def is_plain_outline(depths):
    """Whether these depths are an outline."""
    if not 1 <= len(depths) <= 200 or not all(type(depth) is int for depth in depths):
        return False
    return depths[0] == 0 and all(0 <= after <= before + 1 for before, after in zip(depths, depths[1:]))


def plain_text(document):
    """The text of a document, character by character."""
    text = ""
    for depth, title in document:
        for _ in range(depth):
            text += "  "
        text += title
        text += "\n"
    return text[:-1]


def drawn_title(source):
    """A title of 1 to 20 characters from the space to the tilde, without the percent sign."""
    signs = [chr(code) for code in range(32, 127) if code != 37]
    title = [source.choice(signs) for _ in range(source.choice((1, 2, 3, 19, 20)))]
    for end in (0, -1):
        if title[end] == " ":
            title[end] = source.choice(string.ascii_letters)
    return "".join(title)


def drawn_document(seed, lines, deeper):
    """A document with drawn titles."""
    source = random.Random(seed)
    return [(depth, drawn_title(source)) for depth in plain.drawn_outline(seed, lines, deeper)]


def titled(outline):
    """A document with these depths; each title tells the line."""
    return [(depth, f"t{line}") for line, depth in enumerate(outline)]


class Refused(Exception):
    """A call must raise the error with this name, and with this attribute if it is TooDeepError."""

    def __init__(self, name, line=None):
        super().__init__(name)
        self.name = name
        self.line = line


def is_number(value, least, greatest):
    return type(value) is int and least <= value <= greatest


class PlainViewer:
    """All states that a viewer has had or can have again by redo.

    A state is a tuple of rows and the scroll position. A row has the depth,
    the title and whether the line is folded, so folds go along with their lines.
    """

    def __init__(self, document, height):
        self.height = height
        self.states = [([(depth, title, False) for depth, title in document], 0)]
        self.at = 0

    def copied(self):
        other = PlainViewer([], self.height)
        other.states, other.at = list(self.states), self.at
        return other

    def document(self):
        return [(depth, title) for depth, title, _ in self.states[self.at][0]]

    def folds(self):
        return [line for line, row in enumerate(self.states[self.at][0]) if row[2]]

    def scroll(self):
        return self.states[self.at][1]

    def left_of(self, rows):
        """The lines that are in the section of no other line that is folded."""
        depths = [row[0] for row in rows]
        hidden = set()
        for line, row in enumerate(rows):
            if row[2]:
                first, last = plain.plain_section(depths, line)
                hidden.update(range(first + 1, last + 1))
        return [line for line in range(len(rows)) if line not in hidden]

    def shown_of(self, rows):
        return [rows[line][0] for line in self.left_of(rows)]

    def left(self):
        return self.left_of(self.states[self.at][0])

    def shown(self):
        return self.shown_of(self.states[self.at][0])

    def view(self):
        rows, _ = plain.plain_rows(self.shown(), self.scroll())
        return [self.left()[row] for row in rows[:self.height]]

    def is_shown_at(self, scroll, place):
        if scroll not in plain.plain_scrolls(self.shown()):
            return False
        rows, above = plain.plain_rows(self.shown(), scroll)
        return place in rows[above:self.height]

    def call(self, name, *arguments):
        """Call an operation, undo or redo; it is refused by raising Refused."""
        if name == "undo":
            if self.at == 0:
                raise Refused("EmptyHistoryError")
            self.at -= 1
        elif name == "redo":
            if self.at == len(self.states) - 1:
                raise Refused("EmptyHistoryError")
            self.at += 1
        else:
            rows, scroll = getattr(self, name)(list(self.states[self.at][0]), self.scroll(), *arguments)
            most = max(plain.plain_scrolls(self.shown_of(rows)))
            self.states[self.at + 1:] = [(rows, most if scroll > most else scroll)]
            self.at += 1

    def check_line(self, rows, line):
        if not is_number(line, 0, len(rows) - 1):
            raise Refused("InvalidLineError")

    def check_depths(self, rows):
        if not is_plain_outline([row[0] for row in rows]):
            raise Refused("InvalidDepthError")

    def scroll_to(self, rows, scroll, wanted):
        if not is_number(wanted, 0, max(plain.plain_scrolls(self.shown()))):
            raise Refused("InvalidScrollError")
        return rows, wanted

    def page_down(self, rows, scroll):
        below = scroll + self.height
        if not below < len(self.shown()):
            raise Refused("EndError")
        if not self.shown()[below] < self.height:
            raise Refused("TooDeepError", self.left()[below])
        return rows, plain.plain_stops(self.shown())[below]

    def page_up(self, rows, scroll):
        if scroll == 0:
            raise Refused("EndError")
        wanted = min(scroll - 1, plain.plain_top(self.shown(), scroll) - self.height)
        return rows, wanted if wanted >= 0 else 0

    def reveal(self, rows, scroll, line):
        self.check_line(rows, line)
        if line not in self.left():
            raise Refused("HiddenLineError")
        if not rows[line][0] < self.height:
            raise Refused("TooDeepError", line)
        place = self.left().index(line)
        for distance in range(201):
            found = {near for near in (scroll - distance, scroll + distance) if self.is_shown_at(near, place)}
            if found:
                # Were there two, the positions would be no interval.
                (nearest,) = found
                return rows, nearest
        raise AssertionError("each line that is not too deep is shown somewhere")

    def toggle(self, rows, scroll, line):
        self.check_line(rows, line)
        depth, title, folded = rows[line]
        rows[line] = (depth, title, not folded)
        return rows, scroll

    def insert(self, rows, scroll, line, depth, title):
        if not is_number(line, 0, len(rows)):
            raise Refused("InvalidLineError")
        if len(rows) == 200:
            raise Refused("TooManyLinesError")
        rows.insert(line, (depth, title, False))
        self.check_depths(rows)
        if not is_plain_title(title):
            raise Refused("InvalidTitleError")
        return rows, scroll

    def remove(self, rows, scroll, line):
        self.check_line(rows, line)
        first, last = plain.plain_section([row[0] for row in rows], line)
        left = [row for at, row in enumerate(rows) if not first <= at <= last]
        if not left:
            raise Refused("EmptyOutlineError")
        return left, scroll

    def moved(self, rows, line, levels):
        self.check_line(rows, line)
        first, last = plain.plain_section([row[0] for row in rows], line)
        found = [
            (depth + levels if first <= at <= last else depth, title, folded)
            for at, (depth, title, folded) in enumerate(rows)
        ]
        self.check_depths(found)
        return found

    def indent(self, rows, scroll, line):
        return self.moved(rows, line, 1), scroll

    def outdent(self, rows, scroll, line):
        return self.moved(rows, line, -1), scroll


def drawn_line(source, lines):
    """Mostly the number of a line, sometimes one just outside or a value of another kind."""
    if source.randrange(12):
        return source.randrange(lines)
    return source.choice((-1, lines, lines + 1, 200, True, False, None, "0", 0.0, [0], 10 ** 30))


def drawn_insertion(source, document):
    """Arguments of insert, mostly valid ones."""
    line = source.randrange(len(document) + 1) if source.randrange(12) else drawn_line(source, len(document) + 1)
    before = document[line - 1][0] if type(line) is int and 1 <= line <= len(document) else -1
    depth = source.randrange(before + 2)
    if type(line) is int and line < len(document) and source.randrange(3):
        depth = max(depth, min(document[line][0] - 1, before + 1))
    if not source.randrange(12):
        depth = source.choice((-1, before + 2, True, False, None, "0", 0.0, [0], 10 ** 30))
    title = drawn_title(source) if source.randrange(12) else source.choice(NO_TITLES)
    return (line, depth, title)


def drawn_call(source, model):
    """The name and the arguments of a call, for the state of the plain viewer."""
    document = model.document()
    name = source.choice((
        "scroll_to", "scroll_to", "page_down", "page_down", "page_down", "page_up", "page_up", "reveal", "reveal", "toggle",
        "toggle", "toggle", "insert", "insert", "insert", "remove", "indent", "indent", "outdent", "undo", "undo", "redo",
    ))
    if name in ("page_down", "page_up", "undo", "redo"):
        return (name,)
    if name == "insert":
        return (name, *drawn_insertion(source, document))
    if name == "scroll_to":
        return (name, drawn_line(source, max(plain.plain_scrolls(model.shown())) + 1))
    return (name, drawn_line(source, len(document)))
