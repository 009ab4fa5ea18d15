"""Values: point 2, as far as it speaks of arguments and results."""

import itertools
import unittest

from stickyheads.errors import InvalidOutlineError, StickyHeadsError
from stickyheads.outlines import children, headings, is_outline, section, stops
from stickyheads.views import scroll_to_show, scrolls_for, scrolls_for_both, shown_lines, top_line, view
from tests import calls, plain, plain_pages


def answers(outline, height):
    """What all functions answer about an outline at one height, for all lines and scroll positions."""
    lines, scrolls = range(len(outline)), plain.plain_scrolls(outline)
    found = [is_outline(outline), stops(outline)]
    for function in (headings, section, children):
        found.append([function(outline, line) for line in lines])
    found.append([top_line(outline, scroll) for scroll in scrolls])
    found.append([view(outline, height, scroll) for scroll in scrolls])
    found.append([shown_lines(outline, height, scroll) for scroll in scrolls])
    found.append([scrolls_for(outline, height, line) for line in lines])
    found.append([scrolls_for_both(outline, height, line, other) for line in lines for other in lines])
    for scroll, line in itertools.product(scrolls, lines):
        try:
            found.append(scroll_to_show(outline, height, scroll, line))
        except StickyHeadsError as error:
            found.append((type(error), error.line))
    return found


def plain_answers(outline, height):
    """The same by the plain searches, but for the nearest scroll positions."""
    lines, scrolls = range(len(outline)), plain.plain_scrolls(outline)
    found = [True, plain.plain_stops(outline)]
    for function in (plain.plain_headings, plain.plain_section, plain.plain_children):
        found.append([function(outline, line) for line in lines])
    found.append([plain.plain_top(outline, scroll) for scroll in scrolls])
    searched = [plain.plain_rows(outline, scroll) for scroll in scrolls]
    found.append([rows[:height] for rows, above in searched])
    found.append([plain.ends(rows[above:height]) for rows, above in searched])
    positions = [set(each) for each in plain.plain_positions(outline, height)]
    found.append([plain.ends(each) for each in positions])
    found.append([plain.ends(positions[line] & positions[other]) for line in lines for other in lines])
    return found


class ArgumentsTest(unittest.TestCase):
    def test_by_position_and_by_name(self):
        for function, parameters in calls.FUNCTIONS:
            arguments = calls.right_arguments(parameters)
            expected = function(*arguments.values())
            for many in range(len(parameters) + 1):
                first, rest = parameters[:many], parameters[many:]
                for order in itertools.permutations(rest):
                    named = {name: arguments[name] for name in order}
                    self.assertEqual(function(*[arguments[name] for name in first], **named), expected)
        self.assertIs(is_outline(value=[0]), True)
        self.assertIs(is_outline(value=[1]), False)

    def test_names_are_not_mixed_up(self):
        outline = plain.EXAMPLE
        self.assertEqual(view(scroll=2, height=3, outline=outline), [0, 1, 4])
        self.assertEqual(scroll_to_show(line=4, scroll=5, height=3, outline=outline), 3)
        self.assertEqual(scrolls_for_both(other=4, line=3, height=4, outline=outline), (1, 1))
        self.assertEqual(scrolls_for(line=4, height=3, outline=outline), (2, 3))
        self.assertEqual(shown_lines(scroll=2, height=3, outline=outline), (4, 4))
        self.assertEqual(top_line(scroll=3, outline=outline), 4)
        self.assertEqual(headings(line=3, outline=outline), [0, 1])

    def test_arguments_are_unchanged(self):
        for outline in [*plain.small_outlines(6), *plain.middle_outlines()]:
            for height in (1, 2, 3, 400):
                given = list(outline)
                for function, parameters in calls.VIEW_FUNCTIONS:
                    arguments = {"outline": given, "height": height, "scroll": 0, "line": 0, "other": len(given) - 1}
                    function(**{name: arguments[name] for name in parameters})
                is_outline(given)
                self.assertEqual(repr(given), repr(outline))

    def test_arguments_are_unchanged_by_errors(self):
        for depths in ([], [1], [0, 2], [0, True], [0, -1, "x"], [0] * 201):
            for function, parameters in calls.OUTLINE_FUNCTIONS:
                given = list(depths)
                arguments = {**calls.right_arguments(parameters), "outline": given}
                with self.assertRaises(InvalidOutlineError):
                    function(**arguments)
                is_outline(given)
                self.assertEqual(repr(given), repr(depths))

    def test_outline_is_unchanged_if_another_argument_is_wrong(self):
        for function, parameters in calls.OUTLINE_FUNCTIONS:
            for name in calls.checked(parameters)[1:]:
                for wrong in (-1, 10 ** 30 + 1, True, None, "1", [7], [1, True], (1, 2)):
                    if (name, wrong) == ("pages", 10 ** 30 + 1):
                        continue
                    arguments = {**calls.right_arguments(parameters), name: wrong}
                    expected = repr({**arguments, "outline": plain.EXAMPLE})
                    with self.assertRaises(calls.ERRORS[name]):
                        function(**arguments)
                    self.assertEqual(repr(arguments), expected)


class ResultsTest(unittest.TestCase):
    def assert_integers(self, values, where):
        self.assertTrue(all(type(value) is int for value in values), where)

    def test_kinds(self):
        lists, pairs, numbers = (headings, children, stops, view), (section, shown_lines, scrolls_for), (top_line,)
        for outline in plain.small_outlines(5):
            for height, line in itertools.product((1, 2, 9), range(len(outline))):
                arguments = {"outline": outline, "height": height, "scroll": 0, "line": line, "other": 0}
                for function, parameters in calls.VIEW_FUNCTIONS:
                    if function == scroll_to_show and outline[line] >= height:
                        continue
                    result = function(**{name: arguments[name] for name in parameters})
                    where = (function.__name__, arguments)
                    if function in lists:
                        self.assertIs(type(result), list, where)
                        self.assert_integers(result, where)
                    elif function in numbers or function == scroll_to_show:
                        self.assertIs(type(result), int, where)
                    elif function in pairs or function == scrolls_for_both:
                        if result is not None:
                            self.assertIs(type(result), tuple, where)
                            self.assertEqual(len(result), 2, where)
                            self.assert_integers(result, where)

    def test_equal_arguments_give_equal_results(self):
        for outline in plain.small_outlines(5):
            for height in (1, 2, 3, 6, 400):
                first = answers(list(outline), height)
                self.assertEqual(answers(list(outline), height), first)
                self.assertEqual(first[:10], plain_answers(outline, height))

    def test_returned_lists_are_new(self):
        for outline in plain.small_outlines(5):
            calls_of_lists = [lambda: stops(outline)]
            for line in range(len(outline)):
                calls_of_lists.append(lambda line=line: headings(outline, line))
                calls_of_lists.append(lambda line=line: children(outline, line))
            for height, scroll in itertools.product((1, 2, 400), plain.plain_scrolls(outline)):
                calls_of_lists.append(lambda height=height, scroll=scroll: view(outline, height, scroll))
            expected = [list(call()) for call in calls_of_lists]
            kept = list(outline)
            for call in calls_of_lists:
                one, two = call(), call()
                self.assertIsNot(one, two)
                self.assertIsNot(one, outline)
                one.insert(0, "x")
                two.clear()
            self.assertEqual([call() for call in calls_of_lists], expected)
            self.assertEqual(outline, kept)

    def test_results_stay_when_the_outline_changes(self):
        outline = list(plain.EXAMPLE)
        found = answers(outline, 3)
        kept = repr(found)
        outline[6] = 0
        outline.append(1)
        self.assertEqual(repr(found), kept)

    def test_changed_outline_is_answered_anew(self):
        for outline in plain.small_outlines(5):
            changed = list(outline)
            for height in (1, 3):
                answers(changed, height)
                for other in ([0], [0, 1, 2], [0, 0, 1, 1, 2, 0], outline):
                    changed[:] = other
                    self.assertEqual(answers(changed, height)[:10], plain_answers(other, height))

    def test_one_depth_changed_in_place(self):
        outline = plain.drawn_outline(11, 30, 6)
        for line in range(1, 30):
            answers(outline, 4)
            outline[line] = 0
            outline[line + 1:] = [0] * (29 - line)
            self.assertEqual(answers(outline, 4)[:10], plain_answers(list(outline), 4))

    def test_outline_made_wrong_and_right_again(self):
        outline = list(plain.EXAMPLE)
        found = answers(outline, 3)
        for line, wrong in itertools.product(range(7), (9, -1, True, None, "0")):
            kept = outline[line]
            outline[line] = wrong
            self.assertIs(is_outline(outline), False)
            for function, parameters in calls.OUTLINE_FUNCTIONS:
                arguments = {**calls.right_arguments(parameters), "outline": outline}
                with self.assertRaises(InvalidOutlineError):
                    function(**arguments)
            outline[line] = kept
            self.assertEqual(answers(outline, 3), found)

    def test_results_may_be_passed_back(self):
        outline = list(plain.EXAMPLE)
        for scroll in range(6):
            for line in view(outline, 3, scroll):
                self.assertEqual(scrolls_for(outline, 3, line)[0], scroll_to_show(outline, 3, 0, line))
            self.assertIn(top_line(outline, scroll), view(outline, 3, scroll))


def page_arguments(outline):
    """Valid arguments for the functions from pages.py to repeats.py, for this outline and some heights."""
    lines = len(outline)
    for height in (max(outline) + 1, max(outline) + 2, 400):
        stops = [start - outline[start] for start in plain_pages.plain_page_starts(outline, height, 0)]
        yield {
            "outline": outline, "height": height, "line": lines - 1, "other": lines // 2, "value": list(stops),
            "pages": 2, "index": 0, "scrolls": list(stops), "folds": [0, *range(2, lines)], "number": 3, "times": 2,
        }


def plain_page_answers(outline, height):
    """What most functions from pages.py to repeats.py answer for these arguments, by the plain searches."""
    lines = len(outline)
    line, other = lines - 1, lines // 2
    starts = plain_pages.plain_page_starts(outline, height, 0)
    shortest = plain_pages.plain_shortest(outline, height)
    stops = [start - outline[start] for start in starts]
    left = plain_pages.plain_lines_left(outline, [0, *range(2, lines)])
    return {
        "page_starts": plain_pages.plain_page_starts(outline, height, line),
        "fewest_pages": len(starts),
        "is_reading": True,
        "is_witness_list": plain_pages.is_plain_witness_list(outline, height, stops),
        "count_shortest": len(shortest),
        "nth_shortest": shortest[0],
        "rank_shortest": shortest.index(stops),
        "lines_left": left,
        "folded_outline": [outline[each] for each in left],
        "fewest_folds": plain_pages.plain_fewest_folds(outline, height).get((line, other)),
        "page_start": plain_pages.plain_endless_starts(outline, height, line, 4)[3],
        "reading_rate": plain_pages.plain_rate(outline, height, 0),
        "cycle_lines": plain_pages.plain_cycle_lines(outline, height),
        "pages_of_repeats": len(plain_pages.plain_page_starts(outline * 2, height, 0)),
        "first_meeting": plain_pages.plain_meeting(outline, height, line, other),
    }


class PageFunctionsTest(unittest.TestCase):
    """The same for the functions from pages.py to repeats.py."""

    KINDS = {
        "page_starts": list, "fewest_pages": int, "is_reading": bool, "is_witness_list": bool, "least_height": int,
        "count_shortest": int, "nth_shortest": list, "rank_shortest": int, "lines_left": list, "folded_outline": list,
        "fewest_folds": int, "folds_to_show": list, "page_start": int, "reading_rate": tuple, "cycle_lines": list,
        "pages_of_repeats": int, "first_meeting": int,
    }

    def call(self, function, parameters, arguments):
        return function(**{name: arguments[name] for name in parameters})

    def answers(self, arguments):
        return {
            function.__name__: self.call(function, parameters, arguments)
            for function, parameters in calls.PAGE_FUNCTIONS
        }

    def outlines(self):
        return [*plain.small_outlines(6), plain.drawn_outline(71, 9, 4), plain.drawn_outline(72, 9, 6)]

    def test_names_are_not_mixed_up(self):
        outline = plain.EXAMPLE
        pages, readings, folds, repeats = calls.pages, calls.readings, calls.folds, calls.repeats
        self.assertEqual(pages.page_starts(line=1, height=3, outline=outline), [1, 3, 4, 6])
        self.assertEqual(pages.fewest_pages(height=4, outline=outline), 2)
        self.assertIs(pages.is_reading(value=[0, 1, 3, 5], height=3, outline=outline), True)
        self.assertIs(pages.is_witness_list(value=[0, 3, 4, 6], height=3, outline=outline), True)
        self.assertEqual(pages.least_height(pages=3, outline=outline), 4)
        self.assertEqual(readings.nth_shortest(index=1, height=3, outline=outline), [0, 1, 2, 5])
        self.assertEqual(readings.rank_shortest(scrolls=[0, 1, 2, 5], height=3, outline=outline), 1)
        self.assertEqual(folds.lines_left(folds=[1], outline=outline), [0, 1, 4, 5, 6])
        self.assertEqual(folds.folded_outline(folds=[1], outline=outline), [0, 1, 1, 0, 1])
        self.assertEqual(folds.fewest_folds(other=5, line=1, height=4, outline=outline), 1)
        self.assertEqual(folds.folds_to_show(other=5, line=1, height=4, outline=outline), [1])
        self.assertEqual(repeats.page_start(number=4, line=1, height=3, outline=outline), 8)
        self.assertEqual(repeats.pages_of_repeats(times=2, height=3, outline=outline), 8)
        self.assertEqual(repeats.first_meeting(other=1, line=0, height=3, outline=outline), 3)

    def test_kinds(self):
        for outline in self.outlines():
            for arguments in page_arguments(outline):
                for name, answer in self.answers(arguments).items():
                    if isinstance(answer, (list, tuple)):
                        self.assertTrue(all(type(item) is int for item in answer), (name, arguments))
                    if answer is None:
                        self.assertIn(name, ("fewest_folds", "folds_to_show", "first_meeting"))
                    else:
                        self.assertIs(type(answer), self.KINDS[name], (name, arguments))

    def test_arguments_are_unchanged(self):
        for outline in self.outlines():
            for arguments in page_arguments(list(outline)):
                before = repr(arguments)
                self.answers(arguments)
                self.assertEqual(repr(arguments), before)

    def test_equal_arguments_give_equal_results(self):
        for outline in self.outlines():
            for arguments, copied in zip(page_arguments(outline), page_arguments(list(outline))):
                first = self.answers(arguments)
                self.assertEqual(self.answers(copied), first)
                for name, expected in plain_page_answers(outline, arguments["height"]).items():
                    self.assertEqual(first[name], expected, (name, arguments))

    def test_returned_lists_are_new(self):
        for outline in self.outlines():
            for arguments in page_arguments(outline):
                before = repr(arguments)
                expected = repr(self.answers(arguments))
                for function, parameters in calls.PAGE_FUNCTIONS:
                    one = self.call(function, parameters, arguments)
                    two = self.call(function, parameters, arguments)
                    if type(one) is list:
                        self.assertIsNot(one, two)
                        self.assertTrue(all(one is not given for given in arguments.values()))
                        one.insert(0, "x")
                        two.clear()
                self.assertEqual(repr(self.answers(arguments)), expected)
                self.assertEqual(repr(arguments), before)

    def test_results_stay_when_the_arguments_change(self):
        for arguments in page_arguments(list(plain.EXAMPLE)):
            found = self.answers(arguments)
            kept = repr(found)
            for value in arguments.values():
                if type(value) is list:
                    value.append(0)
            self.assertEqual(repr(found), kept)

    def test_changed_outline_is_answered_anew(self):
        outline = [0]
        for other in self.outlines():
            outline[:] = other
            for arguments in page_arguments(outline):
                found = self.answers(arguments)
                for name, expected in plain_page_answers(other, arguments["height"]).items():
                    self.assertEqual(found[name], expected, (name, arguments))

    def test_one_depth_changed_in_place(self):
        outline = plain.drawn_outline(73, 10, 6)
        for line in range(1, 10):
            outline[line:] = [0] * (10 - line)
            for arguments in page_arguments(outline):
                found = self.answers(arguments)
                for name, expected in plain_page_answers(list(outline), arguments["height"]).items():
                    self.assertEqual(found[name], expected, (name, arguments))

    def test_changed_lists_are_answered_anew(self):
        outline, scrolls, folds = list(plain.EXAMPLE), [0, 1, 2, 4], [1]
        self.assertEqual(calls.readings.rank_shortest(outline, 3, scrolls), 0)
        self.assertIs(calls.pages.is_reading(outline, 3, scrolls), True)
        scrolls[3] = 5
        self.assertEqual(calls.readings.rank_shortest(outline, 3, scrolls), 1)
        scrolls[2] = 4
        self.assertIs(calls.pages.is_reading(outline, 3, scrolls), False)
        self.assertEqual(calls.folds.lines_left(outline, folds), [0, 1, 4, 5, 6])
        folds[0] = 5
        self.assertEqual(calls.folds.lines_left(outline, folds), [0, 1, 2, 3, 4, 5])

    def test_results_may_be_passed_back(self):
        outline = plain.drawn_outline(74, 60, 4)
        height = max(outline) + 2
        many = calls.readings.count_shortest(outline, height)
        reading = calls.readings.nth_shortest(outline, height, many - 1)
        self.assertEqual(calls.readings.rank_shortest(outline, height, reading), many - 1)
        for line, other in ((0, 59), (5, 40)):
            folds = calls.folds.folds_to_show(outline, 20, line, other)
            if folds is not None:
                self.assertIn(line, calls.folds.lines_left(outline, folds))
        start = calls.repeats.page_start(outline, height, 0, 10 ** 27)
        self.assertEqual(calls.repeats.first_meeting(outline, height, 0, start), start)


if __name__ == "__main__":
    unittest.main()
