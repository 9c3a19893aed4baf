import unittest
from fractions import Fraction
from itertools import combinations_with_replacement
from math import gcd, lcm

from risingfits.regression import isotonic_fit, squared_error
from tests.samples import (
    TOO_LARGE,
    UntouchableList,
    check_refusals,
    check_second_call,
    error_of,
    every_list,
    is_nondecreasing,
    lists_within_and_outside_limits,
    many_lists,
    of_weight,
    pairs,
    rationals,
    scattered_lists,
    scattered_numbers,
    with_number,
)


def answer_by_the_words(den, measurements, values):
    sequence = [Fraction(numerator, den) for numerator in values]
    error = error_of(sequence, pairs(measurements))
    return [int(is_nondecreasing(sequence)), error.numerator, error.denominator]


def scattered_calls():
    """Arguments within their limits, the same ones at each run; about half of the sequences rise."""
    numbers = scattered_numbers()
    for largest_value in (3, 999):
        for measurements in scattered_lists(300, largest_value):
            den = next(numbers) % 99 + 1
            largest = min(largest_value * den, 99999)
            values = [next(numbers) % (largest + 1) for _ in pairs(measurements)]
            yield den, measurements, sorted(values) if next(numbers) % 2 == 0 else values


def of_one_denominator(fit):
    """The denominators and numerators within their limits that stand for the fit."""
    smallest = lcm(*[element.denominator for element in fit])
    for den in range(smallest, 100, smallest):
        values = [int(element * den) for element in fit]
        if max(values) <= 99999:
            yield den, values


def small_lists():
    """Lists of 1 to 4 measurements with values from 0 to 2."""
    for count, weights in ((1, (1, 9)), (2, (1, 2, 9)), (3, (1, 2)), (4, (1,))):
        yield from every_list(count, (0, 1, 2), weights)


def values_for(measurements):
    """As many elements as there are measurements, or as near to it as a list of values may come."""
    return [2, 5, 7, 7, 4, 8, 0, 99999, 3, 3, 6, 1][:len(measurements) // 2]


class OrdinaryInputs(unittest.TestCase):
    def test_example_of_the_document(self):
        self.assertEqual(squared_error(2, [1, 1, 3, 1, 2, 1], [2, 5, 5]), [1, 1, 2])

    def test_a_sequence_that_rises(self):
        self.assertEqual(squared_error(1, of_weight(1, [1, 2, 3]), [1, 4, 6]), [1, 13, 1])
        self.assertEqual(squared_error(5, of_weight(1, [1, 2, 3]), [5, 11, 17]), [1, 1, 5])

    def test_a_sequence_with_equal_neighbours(self):
        self.assertEqual(squared_error(1, of_weight(1, [1, 2, 3]), [2, 2, 5]), [1, 5, 1])
        self.assertEqual(squared_error(1, of_weight(1, [1, 2, 3]), [0, 4, 4]), [1, 6, 1])
        self.assertEqual(squared_error(3, of_weight(1, [1, 2, 3]), [6, 6, 6]), [1, 2, 1])

    def test_a_sequence_that_falls_at_one_place(self):
        measured = of_weight(1, [1, 2, 3, 4, 5])
        self.assertEqual(squared_error(1, measured, [2, 1, 3, 4, 5]), [0, 2, 1])
        self.assertEqual(squared_error(1, measured, [1, 3, 2, 4, 5]), [0, 2, 1])
        self.assertEqual(squared_error(1, measured, [1, 2, 3, 5, 4]), [0, 2, 1])
        # What falls in between falls, though its last element is the largest.
        self.assertEqual(squared_error(2, measured, [2, 8, 7, 8, 10]), [0, 17, 4])

    def test_a_sequence_that_falls_by_one_at_each_place_of_each_length(self):
        for count in range(2, 11):
            for place in range(1, count):
                values = [7] * place + [6] * (count - place)
                answer = squared_error(1, of_weight(1, values), values)
                self.assertEqual(answer, [0, 0, 1], values)

    def test_it_is_the_sequence_that_rises_or_falls_and_not_the_measurements(self):
        self.assertEqual(squared_error(1, of_weight(1, [3, 2, 1]), [1, 2, 3]), [1, 8, 1])
        self.assertEqual(squared_error(1, of_weight(1, [1, 2, 3]), [3, 2, 1]), [0, 8, 1])

    def test_different_weights(self):
        self.assertEqual(squared_error(1, [4, 1, 2, 3], [3, 5]), [1, 28, 1])
        self.assertEqual(squared_error(1, [4, 3, 2, 1], [3, 5]), [1, 12, 1])
        self.assertEqual(squared_error(2, [4, 9, 2, 2, 0, 5], [7, 7, 1]), [0, 8, 1])
        self.assertEqual(squared_error(3, [1, 2, 1, 7], [2, 4]), [1, 1, 1])

    def test_elements_below_and_above_the_values(self):
        self.assertEqual(squared_error(1, [5, 2], [3]), [1, 8, 1])
        self.assertEqual(squared_error(1, [5, 2], [7]), [1, 8, 1])
        # The one difference doesn't make up for the other.
        self.assertEqual(squared_error(2, [5, 1, 5, 1], [9, 11]), [1, 1, 2])

    def test_a_denominator_that_shares_a_factor_with_the_numerators(self):
        self.assertEqual(squared_error(6, [1, 1, 2, 1], [3, 10]), [1, 13, 36])
        self.assertEqual(squared_error(4, [0, 1, 0, 1], [4, 8]), [1, 5, 1])
        self.assertEqual(squared_error(10, [1, 1], [12]), [1, 1, 25])

    def test_a_denominator_that_shares_no_factor_with_the_numerators(self):
        self.assertEqual(squared_error(7, [0, 1, 1, 1], [1, 3]), [1, 17, 49])
        self.assertEqual(squared_error(9, [2, 5], [20]), [1, 20, 81])

    def test_terms_that_cancel_only_in_the_sum(self):
        self.assertEqual(squared_error(2, [0, 1] * 4, [1] * 4), [1, 1, 1])
        self.assertEqual(squared_error(5, [0, 1, 0, 1], [3, 4]), [1, 1, 1])
        self.assertEqual(squared_error(6, [0, 1, 0, 1, 0, 1], [1, 1, 2]), [1, 1, 6])


class Edges(unittest.TestCase):
    def test_one_element_is_nondecreasing(self):
        for value in (0, 1, 999):
            for weight in (1, 9):
                self.assertEqual(squared_error(1, [value, weight], [value]), [1, 0, 1])
                self.assertEqual(squared_error(1, [value, weight], [value + 2]), [1, 4 * weight, 1])
                self.assertEqual(squared_error(1, [value, weight], [0]), [1, weight * value * value, 1])

    def test_ten_measurements(self):
        measured = of_weight(1, range(10))
        self.assertEqual(squared_error(1, measured, list(range(10))), [1, 0, 1])
        self.assertEqual(squared_error(3, measured, [3 * k + 1 for k in range(10)]), [1, 10, 9])
        self.assertEqual(squared_error(1, measured, list(range(9, -1, -1))), [0, 330, 1])

    def test_smallest_and_largest_denominator(self):
        self.assertEqual(squared_error(1, [5, 1, 6, 1], [5, 8]), [1, 4, 1])
        self.assertEqual(squared_error(99, [5, 1, 6, 1], [495, 596]), [1, 4, 9801])

    def test_every_denominator(self):
        for den in range(1, 100):
            self.assertEqual(squared_error(den, [0, 9, 999, 1], [0, 999 * den]), [1, 0, 1])
            self.assertEqual(squared_error(den, [0, 1, 1, 1], [1, den]), [1, 1, den * den])
            self.assertEqual(squared_error(den, [1, 1, 1, 1], [den + 1, den]), [0, 1, den * den])

    def test_smallest_and_largest_elements(self):
        self.assertEqual(squared_error(1, [0, 1], [99999]), [1, 9999800001, 1])
        self.assertEqual(squared_error(1, [999, 1], [99999]), [1, 9801000000, 1])
        self.assertEqual(squared_error(99, [0, 1], [99999]), [1, 123454321, 121])
        self.assertEqual(squared_error(99, [0, 1, 0, 1], [0, 99999]), [1, 123454321, 121])
        self.assertEqual(squared_error(1, [0, 1, 0, 1], [99999, 99998]), [0, 19999400005, 1])
        self.assertEqual(squared_error(99, [999, 9], [0]), [1, 8982009, 1])
        self.assertEqual(squared_error(2, [0, 1, 0, 1], [1, 0]), [0, 1, 4])

    def test_smallest_and_largest_values_and_weights(self):
        self.assertEqual(squared_error(2, [0, 1, 999, 9], [1, 1999]), [1, 5, 2])
        self.assertEqual(squared_error(2, [999, 9, 0, 1], [1999, 1]), [0, 5, 2])
        self.assertEqual(squared_error(1, [999, 1, 0, 9], [0, 999]), [1, 9980010, 1])

    def test_largest_error(self):
        self.assertEqual(squared_error(1, [0, 9] * 10, [99999] * 10), [1, 899982000090, 1])

    def test_an_error_of_zero_is_written_0_over_1(self):
        self.assertEqual(squared_error(7, [0, 4], [0]), [1, 0, 1])
        self.assertEqual(squared_error(99, [0, 9] * 10, [0] * 10), [1, 0, 1])
        for measurements in scattered_lists(100, 999):
            for den in (1, 6, 99):
                values = [value * den for value in measurements[0::2]]
                self.assertEqual(squared_error(den, measurements, values)[1:], [0, 1], measurements)

    def test_form_of_the_answer(self):
        for den, measurements, values in scattered_calls():
            answer = squared_error(den, measurements, values)
            self.assertIs(type(answer), list)
            self.assertEqual([type(number) for number in answer], [int] * 3)
            self.assertIn(answer[0], (0, 1))
            self.assertGreaterEqual(answer[1], 0)
            self.assertGreaterEqual(answer[2], 1)
            self.assertEqual(gcd(answer[1], answer[2]), 1, (den, measurements, values))


class WrongInputs(unittest.TestCase):
    def test_denominator(self):
        for den in (0, 100, 101, TOO_LARGE):
            for count in (1, 3, 10):
                self.assertEqual(squared_error(den, [2, 1] * count, [2] * count), [-22], (den, count))

    def test_element(self):
        for count in (1, 3, 10):
            for place in sorted({0, count // 2, count - 1}):
                for element in (100000, TOO_LARGE):
                    values = with_number([99999] * count, place, element)
                    self.assertEqual(squared_error(99, [999, 1] * count, values), [-22], values)

    def test_number_of_elements(self):
        for count in range(1, 11):
            for length in range(13):
                if length != count:
                    answer = squared_error(1, [2, 1] * count, [2] * length)
                    self.assertEqual(answer, [-22], (count, length))

    def test_measurements_outside_limits(self):
        check_refusals(self, lambda measurements: squared_error(2, measurements, values_for(measurements)))
        check_refusals(self, lambda measurements: squared_error(0, measurements, values_for(measurements)))
        check_refusals(self, lambda measurements: squared_error(100, measurements, values_for(measurements)))
        for values in ([], [2], [2, 3, 100000], [1] * 10, [1] * 11, [1] * 12):
            check_refusals(self, lambda measurements: squared_error(2, measurements, values))

    def test_several_arguments_outside_limits(self):
        self.assertEqual(squared_error(0, [2, 1], [100000]), [-22])
        self.assertEqual(squared_error(100, [2, 1], []), [-22])
        self.assertEqual(squared_error(100, [1000, 1], [100000]), [-22])


class WordsOfTheDocument(unittest.TestCase):
    def test_answers_worked_out_anew(self):
        for den, measurements, values in scattered_calls():
            answer = squared_error(den, measurements, values)
            self.assertEqual(answer, answer_by_the_words(den, measurements, values), (den, measurements, values))

    def test_the_fit_has_the_error_that_isotonic_fit_tells(self):
        tried = 0
        for measurements in many_lists():
            answer = isotonic_fit(measurements)
            for den, values in of_one_denominator(rationals(answer[1:-2])):
                tried += 1
                self.assertEqual(squared_error(den, measurements, values), [1] + answer[-2:], (den, measurements))
        self.assertGreater(tried, 10000)

    def test_no_nondecreasing_sequence_has_a_smaller_error_than_the_fit(self):
        for measurements in small_lists():
            smallest = rationals(isotonic_fit(measurements)[-2:])[0]
            for den in (1, 2, 3):
                for values in combinations_with_replacement(range(2 * den + 1), len(measurements) // 2):
                    answer = squared_error(den, measurements, list(values))
                    self.assertEqual(answer[0], 1)
                    self.assertGreaterEqual(Fraction(answer[1], answer[2]), smallest, (den, measurements, values))


class Purity(unittest.TestCase):
    def test_what_was_handed_in_stays_as_it_was(self):
        for measurements in lists_within_and_outside_limits():
            for den in (0, 1, 3):
                for values in (values_for(measurements), [], [100000] * (len(measurements) // 2)):
                    handed_in = [UntouchableList(measurements), UntouchableList(values)]
                    squared_error(den, *handed_in)
                    self.assertEqual(handed_in, [measurements, values])

    def test_a_second_call_answers_as_the_first(self):
        check_second_call(self, lambda measurements: squared_error(3, measurements, values_for(measurements)))


if __name__ == "__main__":
    unittest.main()
