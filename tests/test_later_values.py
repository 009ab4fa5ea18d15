"""Values: point 2, for observations, counting, text and viewers."""

import random
import unittest

from stickyheads.counting import count_outlines, nth_outline, rank_outline
from stickyheads.errors import StickyHeadsError
from stickyheads.observations import conflict, count_fitting, depth_bounds, fits
from stickyheads.outlines import is_outline
from stickyheads.text import format_document, is_document, parse_document
from stickyheads.viewer import Viewer
from tests import calls, plain, plain_observations, plain_viewer


class ArgumentsTest(unittest.TestCase):
    def test_names_are_not_mixed_up(self):
        seen = [(1, 3), (3, 4)]
        self.assertIs(fits(observations=seen, outline=plain.EXAMPLE), True)
        self.assertEqual(depth_bounds(observations=seen, lines=7)[3], (1, 2))
        self.assertEqual(conflict(observations=[(1, 3), (0, 2)], lines=7), (0, 1))
        self.assertEqual(count_fitting(observations=seen, lines=7), 28)
        self.assertEqual(count_outlines(deepest=1, lines=3), 4)
        self.assertEqual(nth_outline(index=3, deepest=1, lines=3), [0, 1, 1])
        self.assertEqual(rank_outline(deepest=1, outline=[0, 1, 1]), 3)
        self.assertIs(is_document(value=plain_viewer.EXAMPLE), True)
        self.assertEqual(format_document(document=plain_viewer.EXAMPLE), "a\n  b\n    c\nd")
        self.assertEqual(parse_document(text="a\n  b c"), [(0, "a"), (1, "b c")])
        self.assertEqual(Viewer(height=2, document=plain_viewer.EXAMPLE).view(), [0, 1])

    def test_arguments_are_unchanged(self):
        for function, parameters in calls.LATER_FUNCTIONS:
            arguments = calls.right_arguments(parameters)
            before = repr(arguments)
            for _ in range(2):
                function(**arguments)
                function(*arguments.values())
                self.assertEqual(repr(arguments), before, function.__name__)

    def test_arguments_are_unchanged_by_errors(self):
        for function, parameters in calls.LATER_FUNCTIONS:
            for name in parameters:
                for wrong in calls.wrong_values(function, name):
                    arguments = {**calls.right_arguments(parameters), name: wrong}
                    before = repr(arguments)
                    with self.assertRaises(calls.ERRORS[name]):
                        function(**arguments)
                    self.assertEqual(repr(arguments), before, function.__name__)

    def test_any_value_is_unchanged(self):
        for value in plain_viewer.NO_DOCUMENTS:
            before = repr(value)
            is_document(value)
            self.assertEqual(repr(value), before)

    def test_greater_arguments_are_unchanged(self):
        for outline, observations, _ in plain_observations.some_observations(range(5000, 5060), 60):
            given = (list(outline), list(observations))
            fits(*given)
            for function in (depth_bounds, conflict, count_fitting):
                function(len(outline), given[1])
            rank_outline(given[0], 200)
            self.assertEqual(given, (outline, observations))


class ResultsTest(unittest.TestCase):
    def answers(self, outline, observations):
        lines = len(outline)
        found = [function(lines, observations) for function in (depth_bounds, conflict, count_fitting)]
        return [*found, fits(outline, observations), rank_outline(outline, 60), nth_outline(lines, 60, 0)]

    def test_equal_arguments_give_equal_results(self):
        for outline, observations, _ in plain_observations.some_observations(range(5100, 5160), 60):
            first = self.answers(outline, observations)
            self.assertEqual(self.answers(list(outline), list(observations)), first)

    def test_returned_lists_are_new(self):
        document, text = list(plain_viewer.EXAMPLE), "a\n  b"
        for call in (
            lambda: depth_bounds(5, []), lambda: depth_bounds(7, [(1, 3)]), lambda: nth_outline(5, 3, 7),
            lambda: nth_outline(5, 3, 0), lambda: parse_document(text), lambda: Viewer(document, 3).document(),
            lambda: Viewer(document, 3).view(), lambda: Viewer(document, 3).folds(),
        ):
            one, two = call(), call()
            expected = list(one)
            self.assertIs(type(one), list)
            self.assertIsNot(one, two)
            one.insert(0, "x")
            two.clear()
            self.assertEqual(call(), expected)
        self.assertEqual(document, plain_viewer.EXAMPLE)

    def test_results_stay_when_the_arguments_change(self):
        observations, outline = [(1, 3), (3, 4)], list(plain.EXAMPLE)
        found = self.answers(outline, observations)
        kept = repr(found)
        observations.append((10 ** 30, 0))
        observations[0] = None
        outline.clear()
        self.assertEqual(repr(found), kept)

    def test_changed_arguments_are_answered_anew(self):
        outline, observations = [0], []
        for other, seen, _ in plain_observations.some_observations(range(5200, 5240), 7):
            outline[:], observations[:] = other, seen
            lines = len(other)
            self.assertIs(fits(outline, observations), plain_observations.is_plain_fit(other, seen))
            self.assertEqual(depth_bounds(lines, observations), plain_observations.plain_bounds(lines, seen))
            self.assertEqual(conflict(lines, observations), plain_observations.plain_conflict(lines, seen))
            self.assertEqual(count_fitting(lines, observations), len(plain_observations.fitting(lines, seen)))
            self.assertEqual(rank_outline(outline, 200), plain.all_outlines(lines).index(other))

    def test_a_document_changed_in_place(self):
        document = plain_viewer.drawn_document(5250, 12, 5)
        kept = list(document)
        for line in range(12):
            document[line] = (kept[line][0], "new")
            self.assertIs(is_document(document), True)
            self.assertEqual(parse_document(format_document(document)), document)
            document[line] = (kept[line][0], "new ")
            self.assertIs(is_document(document), False)
            with self.assertRaises(StickyHeadsError):
                format_document(document)
            document[line] = kept[line]
            self.assertEqual(format_document(document), plain_viewer.plain_text(kept))

    def test_results_may_be_passed_back(self):
        source = random.Random(71)
        for _ in range(20):
            # An index may have more than 31 digits, if the package returned it.
            many = count_outlines(200, 200)
            outline = nth_outline(200, 200, source.randrange(many))
            self.assertEqual(nth_outline(200, 200, rank_outline(outline, 200)), outline)
            document = plain_viewer.titled(outline)
            viewer = Viewer(parse_document(format_document(document)), 30)
            self.assertEqual(Viewer(viewer.document(), 30), viewer)
            low = nth_outline(60, 20, source.randrange(count_outlines(60, 20)))
            bounds = depth_bounds(60, plain_observations.drawn_observations(source, low, 40, 0))
            for depths in ([least for least, _ in bounds], [greatest for _, greatest in bounds]):
                self.assertIs(is_outline(depths), True)


if __name__ == "__main__":
    unittest.main()
