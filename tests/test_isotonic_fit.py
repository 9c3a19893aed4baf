import unittest
from fractions import Fraction
from itertools import combinations, combinations_with_replacement
from math import gcd

from risingfits.regression import isotonic_fit
from tests.samples import (
    check_left_as_it_was,
    check_refusals,
    check_second_call,
    error_of,
    every_list,
    flat,
    is_nondecreasing,
    many_lists,
    max_min_fit,
    of_weight,
    pairs,
    rationals,
    scattered_lists,
    weighted_mean,
    with_number,
)


def fit_and_error(measurements):
    numbers = rationals(isotonic_fit(measurements)[1:])
    return numbers[:-1], numbers[-1]


def cuts_into_blocks(count):
    """Every way to cut the indexes 0 to count - 1 into blocks of neighbours."""
    for how_many in range(count):
        for cuts in combinations(range(1, count), how_many):
            edges = [0, *cuts, count]
            yield list(zip(edges, edges[1:]))


def smallest_error(points):
    # Where the best sequence is level, it lies at the mean there: else moving it a little would better it.
    errors = []
    for blocks in cuts_into_blocks(len(points)):
        sequence = []
        for start, end in blocks:
            sequence += [weighted_mean(points[start:end])] * (end - start)
        if is_nondecreasing(sequence):
            errors.append(error_of(sequence, points))
    return min(errors)


class OrdinaryInputs(unittest.TestCase):
    def test_example_of_the_document(self):
        self.assertEqual(isotonic_fit([1, 1, 3, 1, 2, 1]), [3, 1, 1, 5, 2, 5, 2, 1, 2])

    def test_different_weights(self):
        self.assertEqual(isotonic_fit([6, 2, 3, 1]), [2, 5, 1, 5, 1, 6, 1])
        self.assertEqual(isotonic_fit([6, 1, 3, 2]), [2, 4, 1, 4, 1, 6, 1])
        self.assertEqual(isotonic_fit([10, 3, 5, 4, 20, 9]), [3, 50, 7, 50, 7, 20, 1, 300, 7])

    def test_a_list_that_rises_is_its_own_fit(self):
        self.assertEqual(isotonic_fit([2, 3, 5, 1, 8, 7, 9, 2]), [4, 2, 1, 5, 1, 8, 1, 9, 1, 0, 1])

    def test_a_list_that_falls_has_one_mean(self):
        self.assertEqual(isotonic_fit([9, 1, 6, 1, 3, 1, 0, 1]), [4] + [9, 2] * 4 + [45, 1])
        self.assertEqual(isotonic_fit([8, 1, 5, 2, 1, 4]), [3] + [22, 7] * 3 + [342, 7])

    def test_equal_values(self):
        self.assertEqual(isotonic_fit([7, 1, 7, 9, 7, 4]), [3] + [7, 1] * 3 + [0, 1])

    def test_a_merge_that_sets_off_further_merges(self):
        self.assertEqual(isotonic_fit(of_weight(1, [2, 4, 6, 0])), [4, 2, 1] + [10, 3] * 3 + [56, 3])
        self.assertEqual(isotonic_fit(of_weight(1, [2, 5, 6, 8, 0])), [5, 2, 1] + [19, 4] * 4 + [139, 4])
        self.assertEqual(isotonic_fit([5, 1, 6, 1, 7, 1, 0, 9]), [4] + [3, 2] * 4 + [83, 1])

    def test_a_merge_with_blocks_that_were_merged_before(self):
        # 6 and 2 become 4, 8 and 4 become 6; then 1 draws in first the one, then the other.
        self.assertEqual(isotonic_fit(of_weight(1, [6, 2, 8, 4])), [4] + [4, 1] * 2 + [6, 1] * 2 + [16, 1])
        self.assertEqual(isotonic_fit(of_weight(1, [6, 2, 8, 4, 1, 9])),
                         [6] + [4, 1] * 2 + [13, 3] * 3 + [9, 1] + [98, 3])
        self.assertEqual(isotonic_fit(of_weight(1, [6, 2, 8, 4, 0, 9])), [6] + [4, 1] * 5 + [9, 1] + [40, 1])

    def test_neighbouring_blocks_of_the_same_mean(self):
        self.assertEqual(isotonic_fit(of_weight(1, [3, 1, 2])), [3] + [2, 1] * 3 + [2, 1])
        self.assertEqual(isotonic_fit(of_weight(1, [2, 3, 1])), [3] + [2, 1] * 3 + [2, 1])
        self.assertEqual(isotonic_fit(of_weight(1, [3, 1, 4, 0])), [4] + [2, 1] * 4 + [10, 1])


class Edges(unittest.TestCase):
    def test_one_measurement(self):
        for value in (0, 1, 998, 999):
            for weight in (1, 2, 8, 9):
                self.assertEqual(isotonic_fit([value, weight]), [1, value, 1, 0, 1])

    def test_ten_measurements(self):
        rising = of_weight(9, range(990, 1000))
        self.assertEqual(isotonic_fit(rising), [10] + flat([(value, 1) for value in range(990, 1000)]) + [0, 1])
        falling = of_weight(1, range(10, 0, -1))
        self.assertEqual(isotonic_fit(falling), [10] + [11, 2] * 10 + [165, 2])

    def test_smallest_and_largest_values_and_weights(self):
        self.assertEqual(isotonic_fit([0, 1, 999, 9]), [2, 0, 1, 999, 1, 0, 1])
        self.assertEqual(isotonic_fit([999, 1, 0, 9]), [2] + [999, 10] * 2 + [8982009, 10])
        self.assertEqual(isotonic_fit([999, 9, 0, 1]), [2] + [8991, 10] * 2 + [8982009, 10])
        self.assertEqual(isotonic_fit([999, 9, 0, 9]), [2] + [999, 2] * 2 + [8982009, 2])
        self.assertEqual(isotonic_fit([999, 9] * 5 + [0, 9] * 5), [10] + [999, 2] * 10 + [44910045, 2])

    def test_zero_is_written_0_over_1(self):
        self.assertEqual(isotonic_fit([0, 9, 0, 4]), [2, 0, 1, 0, 1, 0, 1])
        for measurements in scattered_lists(100, 999):
            rising = flat(sorted(pairs(measurements)))
            self.assertEqual(isotonic_fit(rising)[-2:], [0, 1], rising)

    def test_form_of_the_answer(self):
        for measurements in many_lists():
            answer = isotonic_fit(measurements)
            self.assertIs(type(answer), list)
            self.assertEqual({type(number) for number in answer}, {int}, measurements)
            self.assertEqual(answer[0], len(measurements) // 2, measurements)
            self.assertEqual(len(answer), 1 + len(measurements) + 2, measurements)
            for numerator, denominator in pairs(answer[1:]):
                self.assertGreaterEqual(numerator, 0, measurements)
                self.assertGreaterEqual(denominator, 1, measurements)
                self.assertEqual(gcd(numerator, denominator), 1, measurements)


class WrongInputs(unittest.TestCase):
    def test_outside_limits(self):
        check_refusals(self, isotonic_fit)


class Requirements(unittest.TestCase):
    def test_error_is_that_of_the_fit(self):
        for measurements in many_lists():
            fit, error = fit_and_error(measurements)
            self.assertEqual(error, error_of(fit, pairs(measurements)), measurements)

    def test_optimality_is_nondecreasing(self):
        for measurements in many_lists():
            self.assertTrue(is_nondecreasing(fit_and_error(measurements)[0]), measurements)

    def test_optimality_among_all_cuts_into_blocks(self):
        for measurements in many_lists():
            error = fit_and_error(measurements)[1]
            self.assertEqual(error, smallest_error(pairs(measurements)), measurements)

    def test_optimality_among_sequences_on_a_grid(self):
        grid = [Fraction(numerator, 3) for numerator in range(-1, 8)]
        for measurements in every_list(3, (0, 1, 2), (1, 2)):
            error = fit_and_error(measurements)[1]
            points = pairs(measurements)
            for sequence in combinations_with_replacement(grid, 3):
                self.assertLessEqual(error, error_of(sequence, points), measurements)

    def test_max_min_formula(self):
        for measurements in many_lists():
            self.assertEqual(fit_and_error(measurements)[0], max_min_fit(pairs(measurements)), measurements)

    def test_monotonicity(self):
        small = [*every_list(3, (0, 1, 2), (1, 4)), *scattered_lists(60, 990)]
        for measurements in small:
            before = fit_and_error(measurements)[0]
            for place in range(0, len(measurements), 2):
                for rise in (1, 2, 9):
                    raised = with_number(measurements, place, measurements[place] + rise)
                    after = fit_and_error(raised)[0]
                    self.assertTrue(all(one <= other for one, other in zip(before, after, strict=True)),
                                    (measurements, raised))

    def test_conservation(self):
        for measurements in many_lists():
            points = pairs(measurements)
            fit = fit_and_error(measurements)[0]
            of_fit = sum(weight * element for element, (value, weight) in zip(fit, points, strict=True))
            of_values = sum(weight * value for value, weight in points)
            self.assertEqual(of_fit, of_values, measurements)


class Purity(unittest.TestCase):
    def test_what_was_handed_in_stays_as_it_was(self):
        check_left_as_it_was(self, isotonic_fit)

    def test_a_second_call_answers_as_the_first(self):
        check_second_call(self, isotonic_fit)


if __name__ == "__main__":
    unittest.main()
