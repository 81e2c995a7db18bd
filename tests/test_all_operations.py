"""What the document promises over all seven operations together."""

import ast
import contextlib
import importlib.util
import inspect
import io
import math
import pathlib
import unittest

from helper import NO_SUCH_POINT, REFUSED, THREE, TWELVE, AnswerCase, long_lists, small_lists
from spreadpicks import selections
from spreadpicks.selections import (
    best_selection,
    check_prices,
    evaluate_selection,
    greedy_selection,
    marginal_weight,
    max_count,
    prices,
)

INTERFACE = {
    "best_selection": ["spacing", "points"],
    "evaluate_selection": ["spacing", "mask", "points"],
    "prices": ["spacing", "points"],
    "check_prices": ["spacing", "points", "prices"],
    "greedy_selection": ["spacing", "points"],
    "max_count": ["spacing", "points"],
    "marginal_weight": ["spacing", "index", "points"],
}

CHANGES = "append clear extend insert pop remove reverse sort __setitem__ __delitem__ __iadd__ __imul__"


class Unchangeable(list):
    """A list that can be read, but fails at each attempt to change it, undone or not."""


def fail_to_change(*arguments, **named):
    raise AssertionError("a list that was handed in is changed")


for change in CHANGES.split():
    setattr(Unchangeable, change, fail_to_change)


def inputs():
    """Spacings and points within the limits."""
    for points in small_lists(4, [0, 1, 3]):
        for spacing in range(1, 6):
            yield spacing, points
    for points in long_lists():
        for spacing in (20, 90):
            yield spacing, points


def wrong_inputs():
    """Spacings and points of which at least one is outside its limits."""
    for points in ([], THREE, TWELVE):
        for spacing in (0, 1000, 4294967295):
            yield spacing, points
    for points in ([0], [0, 100], [1000, 0], [4, 1, 4, 1], [5, 1, 4, 1], list(range(27))):
        for spacing in (0, 3, 999, 1000):
            yield spacing, points


def some_prices(spacing, points):
    """Prices that suffice and prices that don't: one for each point."""
    weights = points[1::2]
    computed = prices(spacing, points)[2:]
    for found in (computed, weights):
        yield list(found)
        for i in range(len(found)):
            yield found[:i] + [found[i] + 1] + found[i + 1 :]
            yield found[:i] + [max(0, found[i] - 1)] + found[i + 1 :]


def calls(spacing, points):
    """Calls of all operations, as their names and arguments: the last ones with errors."""
    count = len(points) // 2
    for name in ("best_selection", "prices", "greedy_selection", "max_count"):
        yield name, [spacing, points]
    for mask in (0, 1, 2**count // 3, 2**count - 1, 2**count, 4294967295):
        yield "evaluate_selection", [spacing, mask, points]
    for paid in ([0] * count, [9] * count, [999] * count, [1000] * count, [1] * (count + 1)):
        yield "check_prices", [spacing, points, paid]
    for index in list(range(count + 1)) + [4294967295]:
        yield "marginal_weight", [spacing, index, points]


def answer_of(name, arguments):
    return getattr(selections, name)(*arguments)


def answer_by_itself(name, arguments):
    """The answer of a module that nothing was asked of before."""
    found = importlib.util.find_spec("spreadpicks.selections")
    module = importlib.util.module_from_spec(found)
    found.loader.exec_module(module)
    return getattr(module, name)(*arguments)


class Interface(unittest.TestCase):
    def test_names_and_arguments(self):
        for name, arguments in INTERFACE.items():
            parameters = inspect.signature(getattr(selections, name)).parameters.values()
            self.assertEqual([parameter.name for parameter in parameters], arguments)
            for parameter in parameters:
                self.assertIs(parameter.default, inspect.Parameter.empty)

    def test_nothing_is_imported(self):
        for file in pathlib.Path(selections.__file__).parent.glob("*.py"):
            for node in ast.walk(ast.parse(file.read_text())):
                self.assertNotIsInstance(node, (ast.Import, ast.ImportFrom))


class Examples(AnswerCase):
    def test_each_row(self):
        self.assert_answer(best_selection(3, [0, 4, 2, 5, 4, 4]), [8, 5])
        self.assert_answer(prices(3, [0, 4, 2, 5, 4, 4]), [8, 5, 4, 1, 3])
        self.assert_answer(check_prices(3, [0, 4, 2, 5, 4, 4], [4, 1, 3]), [1, 8])
        self.assert_answer(greedy_selection(3, [0, 4, 2, 5, 4, 4]), [5, 2])
        self.assert_answer(marginal_weight(3, 0, [0, 4, 2, 5, 4, 4]), [3])
        self.assert_answer(evaluate_selection(3, 8, [0, 4, 2, 5, 4, 4]), [-22])


class Requirements(AnswerCase):
    def check_optimality(self, spacing, points, greatest):
        total, mask = prices(spacing, points)[:2]
        self.assertEqual(evaluate_selection(spacing, mask, points), [1, total])
        self.assertEqual(total, greatest)
        weight, mask = best_selection(spacing, points)
        self.assertEqual(evaluate_selection(spacing, mask, points), [1, weight])
        self.assertEqual(weight, greatest)

    def check_bound(self, spacing, points, greatest):
        answer = prices(spacing, points)
        self.assertEqual(check_prices(spacing, points, answer[2:]), [1, answer[0]])
        for paid in some_prices(spacing, points):
            sufficient, total = check_prices(spacing, points, paid)
            self.assertEqual(total, sum(paid))
            if sufficient == 1:
                self.assertLessEqual(greatest, total)

    def check_greedy(self, spacing, points, greatest):
        weight, mask = greedy_selection(spacing, points)
        self.assertEqual(evaluate_selection(spacing, mask, points), [1, weight])
        self.assertLessEqual(greatest, 2 * weight)

    def check_marginal(self, spacing, points):
        mask = best_selection(spacing, points)[1]
        for i, weight in enumerate(points[1::2]):
            difference = marginal_weight(spacing, i, points)[0]
            self.assertGreaterEqual(difference, 0)
            self.assertLessEqual(difference, weight if mask & 2**i else 0)

    def test_optimality_bound_and_greedy(self):
        for spacing, points in inputs():
            with self.subTest(spacing=spacing, points=points):
                sets = range(2 ** (len(points) // 2))
                found = [evaluate_selection(spacing, mask, points) for mask in sets]
                greatest = max(weight for valid, weight in found if valid == 1)
                self.check_optimality(spacing, points, greatest)
                self.check_bound(spacing, points, greatest)
                self.check_greedy(spacing, points, greatest)
                self.check_marginal(spacing, points)

    def check_never_rises(self, operation, spacings, points):
        with self.subTest(operation=operation.__name__, points=points):
            found = [operation(spacing, points)[0] for spacing in spacings]
            self.assertEqual(found, sorted(found, reverse=True))

    def test_monotonicity(self):
        for operation in (best_selection, max_count):
            for points in small_lists(5, [0, 1, 5]):
                self.check_never_rises(operation, range(1, 7), points)
            for points in list(long_lists()) + [TWELVE]:
                self.check_never_rises(operation, range(1, 1000), points)


class Answers(AnswerCase):
    LENGTHS = {"best_selection": 2, "evaluate_selection": 2, "check_prices": 2, "greedy_selection": 2}

    def length(self, name, points):
        return 2 + len(points) // 2 if name == "prices" else self.LENGTHS.get(name, 1)

    def error_of(self, name, arguments, points):
        """The error that the document asks for within the limits of spacing and points."""
        count = len(points) // 2
        if name == "evaluate_selection" and arguments[1] >= 2**count:
            return REFUSED
        if name == "marginal_weight" and arguments[1] >= count:
            return NO_SUCH_POINT
        if name == "check_prices":
            paid = arguments[2]
            if len(paid) != count or any(price > 999 for price in paid):
                return REFUSED
        return None

    def test_only_an_error_is_below_zero(self):
        for spacing, points in inputs():
            for name, arguments in calls(spacing, points):
                with self.subTest(name=name, arguments=arguments):
                    answer = answer_of(name, arguments)
                    error = self.error_of(name, arguments, points)
                    if error is not None:
                        self.assert_answer(answer, error)
                    else:
                        self.assert_answer(answer, [abs(number) for number in answer])
                        self.assertEqual(len(answer), self.length(name, points))

    def test_wrong_spacing_or_points_come_before_all_else(self):
        for spacing, points in wrong_inputs():
            for name, arguments in calls(spacing, points):
                with self.subTest(name=name, arguments=arguments):
                    self.assert_answer(answer_of(name, arguments), REFUSED)

    def test_nothing_is_printed(self):
        printed = io.StringIO()
        with contextlib.redirect_stdout(printed), contextlib.redirect_stderr(printed):
            for spacing, points in ((3, THREE), (6, TWELVE), (0, THREE), (3, [])):
                for name, arguments in calls(spacing, points):
                    answer_of(name, arguments)
        self.assertEqual(printed.getvalue(), "")


class EachCallStandsByItself(AnswerCase):
    def some_calls(self):
        some = [(3, THREE), (2, THREE), (6, TWELVE), (90, list(long_lists())[-1]), (3, [])]
        for spacing, points in some + [(0, THREE), (3, [4, 1, 4, 1])]:
            yield from calls(spacing, points)

    def test_calls_in_changing_order(self):
        asked = list(self.some_calls())
        expected = [answer_by_itself(name, arguments) for name, arguments in asked]
        count = len(asked)
        # Steps that share no factor with the count lead through all the calls.
        steps = [step for step in (1, 7, 12, 25, 41, count - 1) if math.gcd(step, count) == 1]
        for step in steps:
            for k in range(count):
                i = k * step % count
                name, arguments = asked[i]
                with self.subTest(step=step, name=name, arguments=arguments):
                    self.assert_answer(answer_of(name, arguments), expected[i])

    def test_nothing_handed_in_is_changed_not_even_for_a_while(self):
        for name, arguments in self.some_calls():
            closed = [Unchangeable(a) if isinstance(a, list) else a for a in arguments]
            with self.subTest(name=name, arguments=arguments):
                self.assert_answer(answer_of(name, closed), answer_of(name, arguments))
                self.assertEqual(closed, arguments)

    def test_an_answer_is_not_a_list_that_was_handed_in_or_given_before(self):
        for name, arguments in self.some_calls():
            with self.subTest(name=name, arguments=arguments):
                self.assert_stands_by_itself(getattr(selections, name), *arguments)


if __name__ == "__main__":
    unittest.main()
