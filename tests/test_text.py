"""Text: points 13 and 14, as far as they speak of titles and documents, and the section on text.py."""

import itertools
import random
import unittest

from stickyheads.errors import InvalidDocumentError, InvalidTextError
from stickyheads.text import format_document, is_document, parse_document
from stickyheads.viewer import Viewer
from tests import plain, plain_viewer
from tests.plain_viewer import drawn_document, is_plain_title, plain_text, titled

EXAMPLE = plain_viewer.EXAMPLE


def many_documents():
    """Documents of all shapes, with titles of all kinds."""
    found = [titled(outline) for outline in [*plain.small_outlines(6), *plain.middle_outlines()]]
    found.extend(titled(outline) for outline in plain.large_outlines())
    found.extend([(0, title)] for title in plain_viewer.SOME_TITLES)
    found.append([(0, title) for title in plain_viewer.SOME_TITLES])
    found.extend(drawn_document(seed, seed % 60 + 1, seed % 8 + 1) for seed in range(3000, 3150))
    found.extend(drawn_document(seed, 200, seed % 8 + 1) for seed in range(3150, 3158))
    found.append([(line, "x" * 20) for line in range(200)])
    return found


def short_documents(most, signs):
    """All documents whose texts have at most so many characters, with titles of these characters; by their texts."""
    titles = [
        "".join(title) for many in range(1, most + 1) for title in itertools.product(signs, repeat=many)
        if is_plain_title("".join(title))
    ]
    found = {title: [(0, title)] for title in titles}
    longer = dict(found)
    while longer:
        before, longer = longer, {}
        for text, document in before.items():
            for depth, title in itertools.product(range(document[-1][0] + 2), titles):
                if len(text) + 1 + 2 * depth + len(title) <= most:
                    longer[text + "\n" + "  " * depth + title] = [*document, (depth, title)]
        found.update(longer)
    return found


class ExampleTest(unittest.TestCase):
    def test_is_document(self):
        found = [is_document([(0, "a"), (1, "b")]), is_document([(0, " a")]), is_document([])]
        self.assertEqual(found, [True, False, False])

    def test_format_document(self):
        self.assertEqual(format_document(EXAMPLE), "a\n  b\n    c\nd")

    def test_parse_document(self):
        self.assertEqual(parse_document("a\n  b c"), [(0, "a"), (1, "b c")])
        with self.assertRaises(InvalidTextError):
            parse_document("a\n b")


class IsDocumentTest(unittest.TestCase):
    def test_documents(self):
        for document in many_documents():
            self.assertIs(is_document(document), True, document)

    def test_no_documents(self):
        for value in plain_viewer.NO_DOCUMENTS:
            with self.subTest(kind=type(value)):
                self.assertIs(is_document(value), False)

    def test_each_title(self):
        for title in plain_viewer.SOME_TITLES:
            self.assertIs(is_document([(0, "a"), (1, title), (0, "b")]), True, title)
        for title in plain_viewer.NO_TITLES:
            with self.subTest(kind=type(title)):
                self.assertIs(is_document([(0, "a"), (1, title), (0, "b")]), False)

    def test_titles_of_a_few_characters(self):
        for many in range(5):
            for signs in itertools.product("a \t\n~", repeat=many):
                title = "".join(signs)
                self.assertIs(is_document([(0, title)]), is_plain_title(title), repr(title))

    def test_lengths_of_titles(self):
        for many in range(60):
            self.assertIs(is_document([(0, "x" * many)]), 1 <= many <= 20, many)
            inner = "x" + " " * (many - 2) + "x" if many >= 2 else "x" * many
            self.assertIs(is_document([(0, inner)]), 1 <= many <= 20, many)

    def test_depths(self):
        for many in range(1, 5):
            for depths in itertools.product(range(-1, 5), repeat=many):
                expected = list(depths) in plain.small_outlines(4)
                self.assertIs(is_document(titled(depths)), expected, depths)

    def test_numbers_of_lines(self):
        for lines in (1, 2, 199, 200, 201, 202, 400, 1000):
            self.assertIs(is_document([(0, "a")] * lines), lines <= 200)

    def test_one_line_changed(self):
        document = drawn_document(3160, 60, 6)
        for line, (depth, title) in enumerate(document):
            most = document[line - 1][0] + 1 if line else 0
            for wrong in (
                None, (depth,), (depth, title, title), [depth, title], (depth, title + "\t"), (depth, " " + title[:19]),
                (most + 1, title), (-1, title), (bool(depth), title), (str(depth), title), (float(depth), title),
                (depth, ""), (depth, "x" * 21), (title, depth), title, depth, plain.Hostile(),
            ):
                self.assertIs(is_document(document[:line] + [wrong] + document[line + 1:]), False, (line, depth))


class TextTest(unittest.TestCase):
    def test_format(self):
        for document in many_documents():
            text = format_document(document)
            self.assertIs(type(text), str)
            self.assertEqual(text, plain_text(document))

    def test_parsing_the_text_gives_the_document(self):
        for document in many_documents():
            found = parse_document(format_document(document))
            self.assertEqual(found, document)
            self.assertIs(type(found), list)
            for item in found:
                self.assertIs(type(item), tuple)
                self.assertEqual([type(part) for part in item], [int, str])

    def test_each_document_has_its_own_text(self):
        documents = [*many_documents(), *short_documents(6, "a ").values()]
        different = {tuple(document) for document in documents}
        self.assertEqual(len({format_document(list(document)) for document in different}), len(different))

    def test_texts_that_are_longer_than_4000_characters(self):
        document = [(line, "x" * 20) for line in range(200)]
        text = format_document(document)
        self.assertEqual(len(text), 200 * 21 - 1 + 199 * 200)
        self.assertEqual(parse_document(text), document)

    def test_all_short_strings(self):
        for most, signs in ((9, "a \n"), (6, "ab \t\n")):
            documents = short_documents(most, signs.replace("\n", ""))
            for many in range(most + 1):
                for each in itertools.product(signs, repeat=many):
                    text = "".join(each)
                    if text in documents:
                        self.assertEqual(parse_document(text), documents.pop(text))
                    else:
                        with self.assertRaises(InvalidTextError):
                            parse_document(text)
            self.assertEqual(documents, {})

    def test_texts_of_no_document(self):
        for text in plain_viewer.NO_TEXTS:
            with self.subTest(kind=type(text)):
                with self.assertRaises(InvalidTextError) as caught:
                    parse_document(text)
                self.assertIs(type(caught.exception), InvalidTextError)

    def test_texts_that_are_nearly_right(self):
        source = random.Random(51)
        parsed = 0
        for seed in range(3200, 3260):
            document = drawn_document(seed, seed % 25 + 1, seed % 8 + 1)
            text = format_document(document)
            for _ in range(40):
                at, many = source.randrange(len(text) + 1), source.choice((0, 0, 1, 1, 2))
                changed = text[:at] + source.choice(("", " ", "  ", "    ", "\n", "\n\n", "\t", "a")) + text[at + many:]
                try:
                    found = parse_document(changed)
                except InvalidTextError:
                    self.assertNotEqual(changed, text)
                else:
                    # What can be parsed is the text of what was found, which is a document.
                    parsed += 1
                    self.assertIs(is_document(found), True)
                    self.assertEqual(plain_text(found), changed)
        self.assertGreater(parsed, 300)

    def test_indents(self):
        for deepest in (0, 1, 5, 60):
            before = plain_text([(line, "t") for line in range(deepest + 1)])
            for spaces in range(2 * deepest + 6):
                text = before + "\n" + " " * spaces + "u"
                if spaces % 2 == 0 and spaces <= 2 * deepest + 2:
                    self.assertEqual(parse_document(text)[-1], (spaces // 2, "u"))
                else:
                    with self.assertRaises(InvalidTextError):
                        parse_document(text)

    def test_ends_of_texts(self):
        for document in many_documents()[:200]:
            text = format_document(document)
            for wrong in ("\n" + text, text + "\n", " " + text, "  " + text, text + " ", text + "\t", "\t" + text):
                with self.assertRaises(InvalidTextError):
                    parse_document(wrong)

    def test_numbers_of_lines(self):
        for lines in (1, 2, 199, 200):
            self.assertEqual(len(parse_document("\n".join(["a"] * lines))), lines)
        for lines in (201, 202, 2000):
            with self.assertRaises(InvalidTextError):
                parse_document("\n".join(["a"] * lines))

    def test_errors_of_format_document(self):
        for value in plain_viewer.NO_DOCUMENTS:
            with self.subTest(kind=type(value)):
                with self.assertRaises(InvalidDocumentError) as caught:
                    format_document(value)
                self.assertIs(type(caught.exception), InvalidDocumentError)

    def test_document_of_a_viewer(self):
        viewer = Viewer(parse_document("a\n  b\n    c\nd"), 3)
        self.assertEqual(format_document(viewer.document()), "a\n  b\n    c\nd")


if __name__ == "__main__":
    unittest.main()
