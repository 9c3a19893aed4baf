import unittest
from fractions import Fraction
from math import gcd

from risingfits.regression import range_mean
from tests.samples import (
    TOO_LARGE,
    check_left_as_it_was,
    check_refusals,
    check_second_call,
    flat,
    many_lists,
    of_weight,
    pairs,
    weighted_mean,
)

INDEXES = (0, 1, 9, 10, TOO_LARGE)


def ranges_of(measurements):
    """Every range of the measurements, both its ends included."""
    count = len(measurements) // 2
    return [(first, last) for first in range(count) for last in range(first, count)]


class OrdinaryInputs(unittest.TestCase):
    def test_ranges_of_measurements_of_weight_1(self):
        measurements = [1, 1, 3, 1, 2, 1]
        self.assertEqual(range_mean(0, 1, measurements), [0, 2, 1])
        self.assertEqual(range_mean(1, 2, measurements), [0, 5, 2])
        self.assertEqual(range_mean(0, 2, measurements), [0, 2, 1])

    def test_different_weights(self):
        measurements = [4, 2, 10, 3, 1, 5, 7, 9]
        self.assertEqual(range_mean(0, 1, measurements), [0, 38, 5])
        self.assertEqual(range_mean(1, 2, measurements), [0, 35, 8])
        self.assertEqual(range_mean(2, 3, measurements), [0, 34, 7])
        self.assertEqual(range_mean(0, 2, measurements), [0, 43, 10])
        self.assertEqual(range_mean(1, 3, measurements), [0, 98, 17])
        self.assertEqual(range_mean(0, 3, measurements), [0, 106, 19])

    def test_both_ends_are_included(self):
        measurements = of_weight(1, [100, 0, 0, 0, 60])
        self.assertEqual(range_mean(0, 4, measurements), [0, 32, 1])
        self.assertEqual(range_mean(1, 4, measurements), [0, 15, 1])
        self.assertEqual(range_mean(0, 3, measurements), [0, 25, 1])
        self.assertEqual(range_mean(1, 3, measurements), [0, 0, 1])

    def test_it_is_the_mean_of_the_measured_values_and_not_of_the_fit(self):
        # The fit is 5 throughout.
        falling = of_weight(1, [9, 5, 1])
        self.assertEqual(range_mean(0, 0, falling), [0, 9, 1])
        self.assertEqual(range_mean(0, 1, falling), [0, 7, 1])
        self.assertEqual(range_mean(1, 2, falling), [0, 3, 1])
        self.assertEqual(range_mean(2, 2, falling), [0, 1, 1])

    def test_lowest_terms(self):
        self.assertEqual(range_mean(0, 1, of_weight(3, [4, 6])), [0, 5, 1])
        self.assertEqual(range_mean(0, 1, of_weight(2, [4, 7])), [0, 11, 2])
        self.assertEqual(range_mean(0, 2, [1, 1, 2, 2, 3, 3]), [0, 7, 3])
        self.assertEqual(range_mean(0, 2, [3, 2, 6, 4, 9, 6]), [0, 7, 1])


class Edges(unittest.TestCase):
    def test_one_measurement(self):
        for value in (0, 1, 998, 999):
            for weight in (1, 2, 8, 9):
                self.assertEqual(range_mean(0, 0, [value, weight]), [0, value, 1])

    def test_a_range_of_one(self):
        for measurements in many_lists():
            for index, (value, weight) in enumerate(pairs(measurements)):
                self.assertEqual(range_mean(index, index, measurements), [0, value, 1], (index, measurements))

    def test_ten_measurements(self):
        rising = of_weight(1, range(10))
        for first, last in ranges_of(rising):
            mean = Fraction(first + last, 2)
            self.assertEqual(range_mean(first, last, rising), [0, mean.numerator, mean.denominator])

    def test_smallest_and_largest_values_and_weights(self):
        self.assertEqual(range_mean(0, 1, [0, 1, 999, 9]), [0, 8991, 10])
        self.assertEqual(range_mean(0, 1, [0, 9, 999, 1]), [0, 999, 10])
        self.assertEqual(range_mean(0, 9, [999, 9] * 10), [0, 999, 1])
        self.assertEqual(range_mean(0, 9, [999, 9] * 9 + [998, 8]), [0, 88903, 89])

    def test_zero_is_written_0_over_1(self):
        self.assertEqual(range_mean(0, 2, [0, 9, 0, 4, 0, 7]), [0, 0, 1])
        self.assertEqual(range_mean(1, 2, [5, 9, 0, 4, 0, 7]), [0, 0, 1])
        self.assertEqual(range_mean(0, 9, of_weight(9, [0] * 10)), [0, 0, 1])

    def test_form_of_the_answer(self):
        for measurements in many_lists():
            for first, last in ranges_of(measurements):
                answer = range_mean(first, last, measurements)
                self.assertIs(type(answer), list)
                self.assertEqual([type(number) for number in answer], [int] * 3)
                self.assertEqual(answer[0], 0)
                self.assertGreaterEqual(answer[1], 0)
                self.assertGreaterEqual(answer[2], 1)
                self.assertEqual(gcd(answer[1], answer[2]), 1, (first, last, measurements))


class WrongInputs(unittest.TestCase):
    def test_a_first_measurement_that_does_not_exist(self):
        for count in (1, 2, 3, 10):
            for first in (count, count + 1, 2 * count, 23, TOO_LARGE):
                for last in range(count):
                    self.assertEqual(range_mean(first, last, [5, 2] * count), [-2], (first, last, count))

    def test_a_last_measurement_that_does_not_exist(self):
        for count in (1, 2, 3, 10):
            for last in (count, count + 1, 2 * count, 23, TOO_LARGE):
                for first in range(count):
                    self.assertEqual(range_mean(first, last, [5, 2] * count), [-2], (first, last, count))

    def test_neither_measurement_exists(self):
        for count in (1, 2, 3, 10):
            for first in (count, count + 1, TOO_LARGE):
                for last in (count, count + 1, TOO_LARGE):
                    self.assertEqual(range_mean(first, last, [5, 2] * count), [-2], (first, last, count))

    def test_a_last_measurement_before_the_first(self):
        for count in (2, 3, 10):
            for first in range(count):
                for last in range(first):
                    self.assertEqual(range_mean(first, last, [5, 2] * count), [-22], (first, last, count))

    def test_measurements_outside_limits(self):
        for first in INDEXES:
            for last in INDEXES:
                check_refusals(self, lambda measurements: range_mean(first, last, measurements))

    def test_a_number_outside_limits_that_the_range_leaves_out(self):
        self.assertEqual(range_mean(0, 0, [5, 1, 1000, 1]), [-22])
        self.assertEqual(range_mean(0, 0, [5, 1, 7, 0]), [-22])
        self.assertEqual(range_mean(1, 1, [5, 10, 7, 1]), [-22])
        self.assertEqual(range_mean(0, 0, [5, 1, 7]), [-22])


class WordsOfTheDocument(unittest.TestCase):
    def test_means_worked_out_anew(self):
        for measurements in many_lists():
            points = pairs(measurements)
            for first, last in ranges_of(measurements):
                mean = weighted_mean(points[first:last + 1])
                answer = range_mean(first, last, measurements)
                self.assertEqual(answer, [0, mean.numerator, mean.denominator], (first, last, measurements))

    def test_what_lies_outside_the_range_changes_nothing(self):
        for measurements in [of_weight(1, [7, 2, 9, 4]), flat([(7, 3), (2, 9), (9, 1), (4, 5)])]:
            alone = range_mean(0, 1, measurements[2:6])
            for value in (0, 5, 999):
                for weight in (1, 9):
                    around = [value, weight] + measurements[2:6] + [value, weight]
                    self.assertEqual(range_mean(1, 2, around), alone)


class Purity(unittest.TestCase):
    def test_what_was_handed_in_stays_as_it_was(self):
        for first in INDEXES:
            for last in INDEXES:
                check_left_as_it_was(self, lambda measurements: range_mean(first, last, measurements))

    def test_a_second_call_answers_as_the_first(self):
        for first in INDEXES:
            for last in INDEXES:
                check_second_call(self, lambda measurements: range_mean(first, last, measurements))


if __name__ == "__main__":
    unittest.main()
