"""Errors: point 3, the errors of each function, and the rows of errors.py."""

import itertools
import unittest

from stickyheads import errors
from stickyheads.outlines import is_outline
from stickyheads.views import scroll_to_show
from tests import calls, plain, plain_observations, plain_viewer

WORD_ERRORS = (
    "InvalidOutlineError", "InvalidLineError", "InvalidHeightError", "InvalidScrollError", "InvalidNumberError",
    "InvalidReadingError", "InvalidFoldsError", "InvalidDocumentError", "InvalidTitleError", "InvalidDepthError",
    "InvalidTextError", "HiddenLineError", "EndError", "TooManyLinesError", "EmptyOutlineError", "EmptyHistoryError",
)
ALL_ERRORS = (*WORD_ERRORS, "TooDeepError", "InvalidObservationsError")


class ClassesTest(unittest.TestCase):
    def test_base(self):
        self.assertEqual(errors.StickyHeadsError.__bases__, (ValueError,))

    def test_direct_subclasses(self):
        self.assertEqual(len(set(ALL_ERRORS)), 18)
        for name in ALL_ERRORS:
            self.assertEqual(getattr(errors, name).__bases__, (errors.StickyHeadsError,), name)
            self.assertEqual(getattr(errors, name).__name__, name)
        self.assertEqual(len({getattr(errors, name) for name in ALL_ERRORS}), 18)

    def test_every_error_class_is_a_direct_subclass(self):
        for value in vars(errors).values():
            if isinstance(value, type) and value != errors.StickyHeadsError:
                self.assertEqual(value.__bases__, (errors.StickyHeadsError,))

    def test_constructed_with_one_string(self):
        for name in WORD_ERRORS:
            with self.assertRaises(ValueError) as caught:
                raise getattr(errors, name)("so it is")
            self.assertIsInstance(caught.exception, errors.StickyHeadsError)

    def test_line_of_too_deep_error(self):
        for line in (0, 1, 7, 199, 10 ** 30):
            self.assertEqual(errors.TooDeepError(line).line, line)
            self.assertEqual(errors.TooDeepError(line=line).line, line)

    def test_index_of_invalid_observations_error(self):
        for index in (None, 0, 1, 39):
            self.assertEqual(errors.InvalidObservationsError(index).index, index)
            self.assertEqual(errors.InvalidObservationsError(index=index).index, index)

    def test_attributes_are_of_the_object(self):
        first, second = errors.TooDeepError(1), errors.TooDeepError(2)
        self.assertEqual((first.line, second.line), (1, 2))
        self.assertIn("line", vars(first))
        self.assertIn("index", vars(errors.InvalidObservationsError(None)))


class RaisedTest(unittest.TestCase):
    def fails(self, function, arguments, kind):
        """Check that the call raises this very class, and that it leaves its arguments alone."""
        before = repr(arguments)
        error = calls.error_of(function, arguments)
        self.assertIs(type(error), kind, function.__name__)
        self.assertIsInstance(error, errors.StickyHeadsError)
        self.assertIsInstance(error, ValueError)
        names = [name for name in ALL_ERRORS if isinstance(error, getattr(errors, name))]
        self.assertEqual(names, [kind.__name__])
        self.assertEqual(repr(arguments), before)

    def test_each_wrong_value(self):
        for function, parameters in calls.FUNCTIONS:
            for name in calls.checked(parameters):
                for wrong in calls.wrong_values(function, name):
                    arguments = calls.right_arguments(parameters)
                    arguments[name] = wrong
                    with self.subTest(function=function.__name__, name=name, kind=type(wrong)):
                        self.fails(function, arguments, calls.ERRORS[name])

    def test_first_error_in_order(self):
        few = {
            "outline": ([], [0, True], None), "height": (0, 401, True), "scroll": (-1, 6, False),
            "line": (-1, 10 ** 30 + 1, True), "other": (-1, 10 ** 30 + 1, None), "pages": (0, True, "1"),
            "index": (-1, 4, False), "scrolls": ([], [0, True, 3, 5], None), "folds": ([7], [1, 1], (1,)),
            "number": (-1, 10 ** 30 + 1, True), "times": (0, 10 ** 30 + 1, True), "lines": (0, 201, True),
            "observations": ([(0, True)], [(0, 0)] * 41, None), "deepest": (-1, 201, True), "text": ("", None),
            "document": ([], [(0, "")], [(True, "a")], None),
        }
        for function, parameters in calls.FUNCTIONS:
            for many in range(2, len(parameters) + 1):
                for names in itertools.combinations(calls.checked(parameters), many):
                    for wrong in itertools.product(*[few[name] for name in names]):
                        arguments = calls.right_arguments(parameters)
                        arguments.update(zip(names, wrong))
                        with self.subTest(function=function.__name__, wrong=dict(zip(names, wrong))):
                            self.fails(function, arguments, calls.ERRORS[names[0]])

    def test_just_outside_the_bounds(self):
        outlines = [*plain.small_outlines(5), *plain.middle_outlines(), *plain.large_outlines()]
        for outline in outlines:
            for function, parameters in calls.VIEW_FUNCTIONS:
                bounds = calls.bounds(outline)
                # Line 0 is shown at the scroll position 0, whatever the height.
                right = {"outline": outline, "height": 1, "scroll": 0, "line": 0, "other": 0}
                for name in parameters[1:]:
                    least, greatest = bounds[name]
                    for wrong in (least - 1, greatest + 1):
                        arguments = {parameter: right[parameter] for parameter in parameters}
                        arguments[name] = wrong
                        self.fails(function, arguments, calls.ERRORS[name])

    def test_just_within_the_bounds(self):
        outlines = [*plain.small_outlines(5), *plain.middle_outlines(), *plain.large_outlines()]
        for outline in outlines:
            for function, parameters in calls.VIEW_FUNCTIONS:
                bounds = calls.bounds(outline)
                values = [bounds[name] for name in parameters[1:]]
                for chosen in itertools.product(*values):
                    arguments = dict(zip(parameters[1:], chosen))
                    deep = outline[arguments.get("line", 0)] >= arguments.get("height", 400)
                    if function == scroll_to_show and deep:
                        self.fails(function, {"outline": outline, **arguments}, errors.TooDeepError)
                    else:
                        function(outline, **arguments)

    def test_the_number_of_lines_depends_on_the_outline(self):
        # The greatest line and scroll position of one outline are wrong for a shorter one.
        for function, parameters in calls.VIEW_FUNCTIONS:
            for name in parameters[1:]:
                if name != "height":
                    arguments = {**calls.right_arguments(parameters), name: 5}
                    function(**arguments)
                    arguments.update({each: 0 for each in ("scroll", "line", "other") if each in parameters})
                    arguments.update({"outline": [0, 1, 0, 1, 0], name: 5})
                    self.fails(function, arguments, calls.ERRORS[name])

    def test_scroll_within_the_lines_but_beyond_the_last_stop(self):
        outline = [0, 1, 2, 3]
        for function, parameters in calls.VIEW_FUNCTIONS:
            if "scroll" in parameters:
                for scroll in (1, 2, 3):
                    arguments = {**calls.right_arguments(parameters), "outline": outline, "scroll": scroll}
                    if "line" in arguments:
                        arguments["line"] = 0
                    self.fails(function, arguments, errors.InvalidScrollError)

    def test_pages_just_outside_the_bounds(self):
        outlines = [*plain.small_outlines(5), *plain.middle_outlines(), *plain.large_outlines()]
        for outline in outlines:
            lines, many = len(outline), calls.readings.count_shortest(outline, 400)
            outside = {
                "height": (0, 401), "line": (-1, lines), "other": (-1, lines), "pages": (0, -1), "index": (-1, many),
                "folds": ([-1], [lines], [0, lines]), "scrolls": ([], [1], [0, lines]), "number": (-1, 10 ** 30 + 1),
                "times": (0, 10 ** 30 + 1),
            }
            right = {
                "outline": outline, "height": 400, "line": lines - 1, "other": 0, "value": [0], "pages": 1,
                "index": many - 1, "folds": [lines - 1], "scrolls": [0], "number": 10 ** 30, "times": 10 ** 30,
            }
            for function, parameters in calls.PAGE_FUNCTIONS:
                arguments = {name: right[name] for name in parameters}
                self.assertIs(calls.error_of(function, arguments), None, function.__name__)
                for name in calls.checked(parameters)[1:]:
                    endless = function in calls.ENDLESS and name in ("line", "other")
                    for wrong in (-1, 10 ** 30 + 1) if endless else outside[name]:
                        self.fails(function, {**arguments, name: wrong}, calls.ERRORS[name])
                    if endless:
                        self.assertIs(calls.error_of(function, {**arguments, name: 10 ** 30}), None)

    def test_later_functions_just_outside_the_bounds(self):
        many = calls.counting.count_outlines(60, 200)
        right = {
            "outline": plain.staircase(200), "lines": 60, "observations": [(10 ** 30, 10 ** 30)] * 40, "deepest": 200,
            "index": many - 1, "document": [(line, "x" * 20) for line in range(200)], "height": 400, "text": "a" * 20,
        }
        outside = {
            "outline": (plain.staircase(201),), "lines": (0, 201), "deepest": (-1, 201), "index": (-1, many),
            "observations": ([(0, 0)] * 41, [(0, 0)] * 39 + [(0, -1)]), "height": (0, 401), "text": ("a" * 21, "a\n"),
            "document": ([(line, "x" * 20) for line in range(201)], [(0, "x" * 21)]),
        }
        for function, parameters in calls.LATER_FUNCTIONS:
            arguments = {name: right[name] for name in parameters}
            self.assertIs(calls.error_of(function, arguments), None, function.__name__)
            for name in parameters:
                for wrong in outside[name]:
                    self.fails(function, {**arguments, name: wrong}, calls.ERRORS[name])
        for function in (calls.observations.depth_bounds, calls.observations.conflict, calls.observations.count_fitting):
            self.fails(function, {"lines": 61, "observations": []}, errors.InvalidNumberError)

    def test_index_of_the_first_item_that_is_no_observation(self):
        for function, parameters in calls.LATER_FUNCTIONS:
            if "observations" in parameters:
                for value, index in plain_observations.NO_OBSERVATIONS:
                    arguments = {**calls.right_arguments(parameters), "observations": value}
                    self.assertEqual(calls.error_of(function, arguments).index, index)

    def test_any_value_as_a_document(self):
        for value in plain_viewer.NO_DOCUMENTS:
            self.assertIs(calls.text.is_document(value), False)
            self.assertIs(calls.text.is_document(value=value), False)

    def test_any_value_as_a_reading_or_a_witness_list(self):
        for function in (calls.pages.is_reading, calls.pages.is_witness_list):
            for wrong in (None, True, 0, "", [True], (0,), plain.Hostile()):
                arguments = {"outline": list(plain.EXAMPLE), "height": 3, "value": wrong}
                self.assertIs(function(**arguments), False)
                self.fails(function, {**arguments, "height": 0}, errors.InvalidHeightError)
                self.fails(function, {**arguments, "outline": [0, 2], "height": 0}, errors.InvalidOutlineError)

    def test_is_outline_raises_nothing(self):
        for value in [*plain.NO_OUTLINES, *plain.NO_INTEGERS, *plain.NO_LINES]:
            self.assertIn(is_outline(value), (True, False))


class TooDeepTest(unittest.TestCase):
    def test_line(self):
        outline = [0, 1, 2, 2, 1, 0, 1]
        for line, height in ((1, 1), (2, 1), (2, 2), (3, 2), (6, 1)):
            for scroll in range(6):
                with self.assertRaises(errors.TooDeepError) as caught:
                    scroll_to_show(outline, height, scroll, line)
                self.assertIs(type(caught.exception), errors.TooDeepError)
                self.assertEqual(caught.exception.line, line)

    def test_pages_that_cannot_be_read(self):
        for function, later in calls.TOO_DEEP.items():
            parameters = dict(calls.PAGE_FUNCTIONS)[function]
            for height, line in ((2, 2), (1, 1)):
                arguments = {**calls.right_arguments(parameters), "height": height}
                if function == calls.pages.page_starts:
                    arguments["line"] = 0
                with self.subTest(function=function.__name__, height=height):
                    error = calls.error_of(function, arguments)
                    self.assertIs(type(error), errors.TooDeepError)
                    self.assertEqual(error.line, line)
                    for name in calls.checked(parameters):
                        expected = errors.TooDeepError if name in later else calls.ERRORS[name]
                        for wrong in calls.wrong_values(function, name):
                            error = calls.error_of(function, {**arguments, name: wrong})
                            self.assertIs(type(error), expected, name)

    def test_functions_that_raise_it_not(self):
        for function, parameters in calls.PAGE_FUNCTIONS:
            if function not in calls.TOO_DEEP:
                arguments = calls.right_arguments(parameters)
                if "height" in arguments:
                    arguments["height"] = 1
                self.assertIs(calls.error_of(function, arguments), None, function.__name__)

    def test_bound(self):
        outline = plain.staircase(200)
        for height in range(1, 200):
            self.assertEqual(scroll_to_show(outline, height, 0, height - 1), 0)
            with self.assertRaises(errors.TooDeepError) as caught:
                scroll_to_show(outline, height, 0, height)
            self.assertEqual(caught.exception.line, height)

    def test_other_errors_come_first(self):
        deep = {"outline": [0, 1, 2, 2], "height": 1, "scroll": 0, "line": 2}
        wrong = {"outline": [0, 2, 1, 1], "height": 0, "scroll": 2, "line": 4}
        for name, value in wrong.items():
            with self.assertRaises(calls.ERRORS[name]):
                scroll_to_show(**{**deep, name: value})
        with self.assertRaises(errors.TooDeepError):
            scroll_to_show(**deep)


if __name__ == "__main__":
    unittest.main()
