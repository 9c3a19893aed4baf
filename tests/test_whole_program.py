"""What the document promises over all operations together."""

import ast
import inspect
import io
import unittest
from contextlib import redirect_stderr, redirect_stdout
from fractions import Fraction
from itertools import product
from pathlib import Path

import risingfits
from risingfits import regression
from risingfits.regression import (
    blocks,
    first_reaching,
    fit_if_value,
    isotonic_fit,
    range_mean,
    squared_error,
)
from tests.samples import (
    TOO_LARGE,
    UntouchableList,
    every_list,
    is_nondecreasing,
    lists_outside_limits,
    many_lists,
    rationals,
    scattered_lists,
)

PARAMETERS = {
    "isotonic_fit": ["measurements"],
    "blocks": ["measurements"],
    "squared_error": ["den", "measurements", "values"],
    "fit_if_value": ["index", "value", "measurements"],
    "first_reaching": ["value", "measurements"],
    "range_mean": ["first", "last", "measurements"],
}

# What each argument other than the measurements may be, within its limits and outside.
ARGUMENTS = {
    "den": (0, 1, 99, 100, TOO_LARGE),
    "values": ([], [3], [5, 100000], [2, 5, 5], [1] * 10, [7] * 12),
    "index": (0, 2, 10, TOO_LARGE),
    "value": (0, 2, 999, 1000, TOO_LARGE),
    "first": (0, 2, 10, TOO_LARGE),
    "last": (0, 2, 10, TOO_LARGE),
}


def calls_with(measurements):
    """Each operation with the measurements and every choice of the other arguments."""
    for name, parameters in PARAMETERS.items():
        choices = [[measurements] if parameter == "measurements" else ARGUMENTS[parameter] for parameter in parameters]
        for arguments in product(*choices):
            yield name, arguments


def mixed_calls():
    lists = [*scattered_lists(20, 9), *(wrong for what, wrong in lists_outside_limits())]
    return [call for measurements in lists for call in calls_with(measurements)]


def answer_of(call):
    name, arguments = call
    return getattr(regression, name)(*arguments)


def mean_of(first, last, measurements):
    return rationals(range_mean(first, last, measurements)[1:])[0]


def fit_of(measurements):
    return rationals(isotonic_fit(measurements)[1:-2])


def block_of_each(measurements):
    """For each measurement the first and the last one of its block."""
    ends = []
    for size in blocks(measurements)[1:-1]:
        first = len(ends)
        ends += [(first, first + size - 1)] * size
    return ends


class Examples(unittest.TestCase):
    def test_examples_of_the_document(self):
        m = [1, 1, 3, 1, 2, 1]
        self.assertEqual(isotonic_fit(m), [3, 1, 1, 5, 2, 5, 2, 1, 2])
        self.assertEqual(blocks(m), [2, 1, 2, 1])
        self.assertEqual(squared_error(2, m, [2, 5, 5]), [1, 1, 2])
        self.assertEqual(first_reaching(2, m), [1])
        self.assertEqual(first_reaching(3, m), [-33])


class Requirements(unittest.TestCase):
    def test_1_optimality(self):
        for measurements in [*every_list(2, (0, 1, 2), (1, 2, 9)), *every_list(3, (0, 1, 2), (1, 2))]:
            fit, error = fit_of(measurements), rationals(isotonic_fit(measurements)[-2:])[0]
            self.assertTrue(is_nondecreasing(fit), measurements)
            for values in product(range(5), repeat=len(fit)):
                nondecreasing, numerator, denominator = squared_error(2, measurements, list(values))
                self.assertEqual(nondecreasing == 1, is_nondecreasing(values))
                if nondecreasing == 1:
                    self.assertGreaterEqual(Fraction(numerator, denominator), error, (measurements, values))

    def test_2_max_min_formula(self):
        for measurements in many_lists():
            count = len(measurements) // 2
            means = {(a, b): mean_of(a, b, measurements) for a in range(count) for b in range(a, count)}
            formula = [max(min(means[a, b] for b in range(i, count)) for a in range(i + 1)) for i in range(count)]
            self.assertEqual(fit_of(measurements), formula, measurements)

    def test_3_monotonicity(self):
        for measurements in [*every_list(3, (0, 1, 2), (1, 4)), *scattered_lists(60, 999)]:
            before = fit_of(measurements)
            for index, value in enumerate(measurements[0::2]):
                for larger in {min(value + rise, 999) for rise in (1, 2, 9, 999)}:
                    answer = fit_if_value(index, larger, measurements)
                    after = rationals(answer[1:])
                    self.assertTrue(all(one <= other for one, other in zip(before, after, strict=True)),
                                    (index, larger, measurements))

    def test_4_conservation(self):
        for measurements in many_lists():
            weights = measurements[1::2]
            of_fit = sum(weight * element for element, weight in zip(fit_of(measurements), weights, strict=True))
            of_values = sum(weight * value for value, weight in zip(measurements[0::2], weights, strict=True))
            self.assertEqual(of_fit, of_values, measurements)
            self.assertEqual(of_fit, sum(weights) * mean_of(0, len(weights) - 1, measurements), measurements)


class OperationsTogether(unittest.TestCase):
    def test_the_fit_of_a_measurement_is_the_mean_of_its_block(self):
        for measurements in many_lists():
            means = [mean_of(first, last, measurements) for first, last in block_of_each(measurements)]
            self.assertEqual(fit_of(measurements), means, measurements)

    def test_what_reaches_a_value_first_begins_a_block(self):
        for measurements in many_lists():
            ends = block_of_each(measurements)
            for value in (0, 1, 2, 3, 500):
                index = first_reaching(value, measurements)[0]
                if index != -33:
                    self.assertEqual(ends[index][0], index, (value, measurements))

    def test_one_block_has_the_mean_of_all(self):
        for measurements in many_lists():
            if blocks(measurements)[0] == 1:
                mean = range_mean(0, len(measurements) // 2 - 1, measurements)[1:]
                self.assertEqual(isotonic_fit(measurements)[1:-2], mean * (len(measurements) // 2), measurements)

    def test_no_descent_means_no_error(self):
        for measurements in many_lists():
            self.assertEqual(blocks(measurements)[-1] == 0, isotonic_fit(measurements)[-2:] == [0, 1], measurements)


class Interface(unittest.TestCase):
    def test_names_and_arguments(self):
        for name, parameters in PARAMETERS.items():
            function = getattr(regression, name)
            self.assertEqual(function.__module__, "risingfits.regression")
            signature = inspect.signature(function)
            self.assertEqual(list(signature.parameters), parameters)
            for parameter in signature.parameters.values():
                self.assertIs(parameter.kind, inspect.Parameter.POSITIONAL_OR_KEYWORD)
                self.assertIs(parameter.default, inspect.Parameter.empty)

    def test_arguments_by_name(self):
        m = [1, 1, 3, 1, 2, 1]
        self.assertEqual(isotonic_fit(measurements=m), [3, 1, 1, 5, 2, 5, 2, 1, 2])
        self.assertEqual(blocks(measurements=m), [2, 1, 2, 1])
        self.assertEqual(squared_error(den=2, measurements=m, values=[2, 5, 5]), [1, 1, 2])
        self.assertEqual(fit_if_value(index=2, value=4, measurements=m), [3, 1, 1, 3, 1, 4, 1])
        self.assertEqual(first_reaching(value=2, measurements=m), [1])
        self.assertEqual(range_mean(first=1, last=2, measurements=m), [0, 5, 2])

    def test_measurements_outside_limits_come_first(self):
        for what, measurements in lists_outside_limits():
            for call in calls_with(measurements):
                self.assertEqual(answer_of(call), [-22], (what, call))

    def test_an_error_is_its_code_alone_and_nothing_else_is_below_0(self):
        for call in mixed_calls():
            answer = answer_of(call)
            self.assertIs(type(answer), list)
            self.assertEqual({type(number) for number in answer}, {int}, call)
            if min(answer) < 0:
                self.assertIn(answer, ([-2], [-22], [-33]), call)

    def test_each_operation_has_its_own_error_codes(self):
        codes = {name: set() for name in PARAMETERS}
        for call in mixed_calls():
            codes[call[0]].update(number for number in answer_of(call) if number < 0)
        self.assertEqual(codes, {
            "isotonic_fit": {-22},
            "blocks": {-22},
            "squared_error": {-22},
            "fit_if_value": {-2, -22},
            "first_reaching": {-22, -33},
            "range_mean": {-2, -22},
        })


class Purity(unittest.TestCase):
    def test_what_was_handed_in_stays_as_it_was(self):
        for name, arguments in mixed_calls():
            handed_in = [UntouchableList(given) if isinstance(given, list) else given for given in arguments]
            answer_of((name, handed_in))
            self.assertEqual(handed_in, list(arguments), name)

    def test_each_call_stands_by_itself(self):
        calls = mixed_calls()
        answers = [answer_of(call) for call in calls]
        backwards = [answer_of(call) for call in reversed(calls)]
        self.assertEqual(answers, backwards[::-1])

    def test_no_list_is_given_back_twice(self):
        for call in mixed_calls():
            answer = answer_of(call)
            kept = list(answer)
            answer.append(-1)
            self.assertEqual(answer_of(call), kept, call)
            self.assertFalse(any(answer is given for given in call[1]))

    def test_nothing_is_printed(self):
        written = io.StringIO()
        with redirect_stdout(written), redirect_stderr(written):
            for call in mixed_calls():
                answer_of(call)
        self.assertEqual(written.getvalue(), "")

    def test_nothing_is_imported_but_the_package_itself(self):
        for path in Path(risingfits.__file__).parent.rglob("*.py"):
            for node in ast.walk(ast.parse(path.read_text("ascii"))):
                self.assertNotIsInstance(node, ast.Import, path)
                if isinstance(node, ast.ImportFrom):
                    self.assertTrue(node.module.startswith("risingfits."), path)


if __name__ == "__main__":
    unittest.main()
