"""The interface: names, parameters, and the files in which they are defined."""

import ast
import importlib
import inspect
import pathlib
import unittest

PACKAGE = pathlib.Path(__file__).resolve().parent.parent / "stickyheads"

FUNCTIONS = {
    "outlines": {
        "is_outline": ["value"],
        "headings": ["outline", "line"],
        "children": ["outline", "line"],
        "stops": ["outline"],
        "section": ["outline", "line"],
    },
    "views": {
        "top_line": ["outline", "scroll"],
        "scroll_to_show": ["outline", "height", "scroll", "line"],
        "view": ["outline", "height", "scroll"],
        "shown_lines": ["outline", "height", "scroll"],
        "scrolls_for": ["outline", "height", "line"],
        "scrolls_for_both": ["outline", "height", "line", "other"],
    },
    "pages": {
        "page_starts": ["outline", "height", "line"],
        "fewest_pages": ["outline", "height"],
        "least_height": ["outline", "pages"],
        "is_reading": ["outline", "height", "value"],
        "is_witness_list": ["outline", "height", "value"],
    },
    "readings": {
        "count_shortest": ["outline", "height"],
        "rank_shortest": ["outline", "height", "scrolls"],
        "nth_shortest": ["outline", "height", "index"],
    },
    "folds": {
        "lines_left": ["outline", "folds"],
        "folded_outline": ["outline", "folds"],
        "fewest_folds": ["outline", "height", "line", "other"],
        "folds_to_show": ["outline", "height", "line", "other"],
    },
    "repeats": {
        "page_start": ["outline", "height", "line", "number"],
        "pages_of_repeats": ["outline", "height", "times"],
        "reading_rate": ["outline", "height"],
        "cycle_lines": ["outline", "height"],
        "first_meeting": ["outline", "height", "line", "other"],
    },
    "observations": {
        "fits": ["outline", "observations"],
        "depth_bounds": ["lines", "observations"],
        "conflict": ["lines", "observations"],
        "count_fitting": ["lines", "observations"],
    },
    "counting": {
        "count_outlines": ["lines", "deepest"],
        "rank_outline": ["outline", "deepest"],
        "nth_outline": ["lines", "deepest", "index"],
    },
    "text": {
        "is_document": ["value"],
        "format_document": ["document"],
        "parse_document": ["text"],
    },
}

CLASSES = {
    "errors": [
        "StickyHeadsError", "InvalidOutlineError", "InvalidLineError", "InvalidHeightError", "InvalidScrollError",
        "InvalidNumberError", "InvalidReadingError", "InvalidFoldsError", "InvalidDocumentError",
        "InvalidTitleError", "InvalidDepthError", "InvalidTextError", "HiddenLineError", "EndError",
        "TooManyLinesError", "EmptyOutlineError", "EmptyHistoryError", "TooDeepError", "InvalidObservationsError",
    ],
    "viewer": ["Viewer"],
}

METHODS = {
    "__init__": ["document", "height"], "scroll_to": ["scroll"], "page_down": [], "page_up": [], "reveal": ["line"],
    "toggle": ["line"], "insert": ["line", "depth", "title"], "remove": ["line"], "indent": ["line"],
    "outdent": ["line"], "undo": [], "redo": [], "view": [], "document": [], "folds": [], "scroll": [],
    "duplicate": [], "__len__": [], "__eq__": ["other"],
}


def tree(path):
    return ast.parse(path.read_text(encoding="ascii"))


def defined(path):
    """The names of the functions and classes that a file defines at its top."""
    return [node.name for node in tree(path).body if isinstance(node, (ast.FunctionDef, ast.ClassDef))]


class InterfaceTest(unittest.TestCase):
    def test_functions(self):
        for file, functions in FUNCTIONS.items():
            module = importlib.import_module(f"stickyheads.{file}")
            for name, parameters in functions.items():
                self.assertIn(name, defined(PACKAGE / f"{file}.py"))
                signature = inspect.signature(getattr(module, name))
                self.assertEqual(list(signature.parameters), parameters)
                for parameter in signature.parameters.values():
                    self.assertIs(parameter.kind, inspect.Parameter.POSITIONAL_OR_KEYWORD)
                    self.assertIs(parameter.default, inspect.Parameter.empty)

    def test_classes(self):
        for file, classes in CLASSES.items():
            module = importlib.import_module(f"stickyheads.{file}")
            for name in classes:
                self.assertIn(name, defined(PACKAGE / f"{file}.py"))
                self.assertTrue(inspect.isclass(getattr(module, name)))

    def test_methods(self):
        viewer = importlib.import_module("stickyheads.viewer")
        for name, parameters in METHODS.items():
            # In the body of the class itself, not in a base class.
            method = vars(viewer.Viewer)[name]
            self.assertTrue(inspect.isfunction(method), name)
            self.assertEqual(list(inspect.signature(method).parameters), ["self", *parameters])
            for parameter in inspect.signature(method).parameters.values():
                self.assertIs(parameter.kind, inspect.Parameter.POSITIONAL_OR_KEYWORD)
                self.assertIs(parameter.default, inspect.Parameter.empty)

    def test_parameters_of_errors(self):
        errors = importlib.import_module("stickyheads.errors")
        self.assertEqual(list(inspect.signature(errors.TooDeepError).parameters), ["line"])
        self.assertEqual(list(inspect.signature(errors.InvalidObservationsError).parameters), ["index"])


class FormTest(unittest.TestCase):
    """The rules of the language that can be counted: sizes, characters, imports."""

    def test_folder(self):
        found = [path.name for path in PACKAGE.iterdir() if path.name != "__pycache__"]
        self.assertIn("__init__.py", found)
        self.assertTrue(all(name.endswith(".py") for name in found), found)

    def test_sizes_and_characters(self):
        for path in PACKAGE.glob("*.py"):
            lines = path.read_bytes().decode("ascii").split("\n")
            self.assertLess(len(lines), 400, path)
            for line in lines:
                self.assertLessEqual(len(line), 120, (path, line))
                self.assertTrue(all(" " <= sign <= "~" for sign in line), (path, line))
            for node in ast.walk(tree(path)):
                if isinstance(node, ast.FunctionDef):
                    self.assertLessEqual(node.end_lineno - node.lineno, 39, (path, node.name))

    def test_imports(self):
        for path in PACKAGE.glob("*.py"):
            for node in ast.walk(tree(path)):
                self.assertNotIsInstance(node, ast.Import, path)
                if isinstance(node, ast.ImportFrom):
                    self.assertEqual(node.level, 0, path)
                    folder = node.module.split(".")[0]
                    self.assertIn(folder, ("stickyheads", "heapq", "math", "itertools", "collections"), path)


if __name__ == "__main__":
    unittest.main()
