"""Text: documents, and how they are written."""

from stickyheads.errors import InvalidDocumentError, InvalidTextError
from stickyheads.outlines import is_outline

LONGEST_TITLE = 20
INDENT = "  "


def is_title(value):
    """Return whether the value is a title."""
    if not isinstance(value, str) or not 1 <= len(value) <= LONGEST_TITLE:
        return False
    if "\t" in value or "\n" in value:
        return False
    return not value.startswith(" ") and not value.endswith(" ")


def has_title(value):
    """Return whether the value is a tuple of something and a title."""
    # An object of a class derived from tuple is not exactly a tuple.
    return type(value) == tuple and len(value) == 2 and is_title(value[1])


def depths_of(document):
    """Return the list of the depths of the lines of a document; nothing is checked."""
    return [depth for depth, _ in document]


def is_document(value):
    """Return whether the value is a document; any value is accepted."""
    if type(value) != list or not all([has_title(item) for item in value]):
        return False
    return is_outline(depths_of(value))


def check_document(document):
    """Raise an error if the value is not a document."""
    if not is_document(document):
        raise InvalidDocumentError("this is not a document")


def format_document(document):
    """Return the text of the document."""
    check_document(document)
    return "\n".join([INDENT * depth + title for depth, title in document])


def parse_row(row):
    """Return the tuple of the depth and the title that a line of text seems to tell."""
    depth = (len(row) - len(row.lstrip(" "))) // len(INDENT)
    # An odd space stays before the title, which is none then.
    return (depth, row[depth * len(INDENT):])


def parse_document(text):
    """Return the document with this text."""
    if not isinstance(text, str):
        raise InvalidTextError("this is not a string")
    document = [parse_row(row) for row in text.split("\n")]
    if not is_document(document):
        raise InvalidTextError("this is not the text of a document")
    return document
