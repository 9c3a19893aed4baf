import unittest
from math import gcd

from risingfits.regression import fit_if_value, isotonic_fit
from tests.samples import (
    TOO_LARGE,
    check_left_as_it_was,
    check_refusals,
    check_second_call,
    every_list,
    flat,
    many_lists,
    max_min_fit,
    of_weight,
    pairs,
    rationals,
    scattered_lists,
    with_number,
)

INDEXES = (0, 1, 2, 9, 10, 11, TOO_LARGE)
VALUES = (0, 5, 999, 1000, TOO_LARGE)


def small_and_scattered_lists():
    """Lists with values up to 2, up to 9 and up to 999, few enough to try each index of each."""
    yield from every_list(2, (0, 1, 2), (1, 2, 9))
    yield from every_list(3, (0, 1, 2), (1, 4))
    yield from scattered_lists(40, 9)
    yield from scattered_lists(40, 999)


def changes_of(measurements):
    """Every index of the measurements with some values, its own among them."""
    for index, (value, weight) in enumerate(pairs(measurements)):
        for given in sorted({0, 1, 2, 5, max(value - 1, 0), value, min(value + 1, 999), 500, 999}):
            yield index, given


class OrdinaryInputs(unittest.TestCase):
    def test_a_value_that_is_raised(self):
        self.assertEqual(fit_if_value(2, 4, [1, 1, 3, 1, 2, 1]), [3, 1, 1, 3, 1, 4, 1])
        self.assertEqual(fit_if_value(0, 2, [1, 1, 3, 1, 2, 1]), [3, 2, 1, 5, 2, 5, 2])
        self.assertEqual(fit_if_value(1, 6, [1, 1, 3, 1, 2, 1]), [3, 1, 1, 4, 1, 4, 1])

    def test_a_value_that_is_lowered(self):
        self.assertEqual(fit_if_value(1, 0, [1, 1, 3, 1, 2, 1]), [3, 1, 2, 1, 2, 2, 1])
        self.assertEqual(fit_if_value(0, 0, [1, 1, 3, 1, 2, 1]), [3, 0, 1, 5, 2, 5, 2])
        self.assertEqual(fit_if_value(2, 0, [1, 1, 3, 1, 2, 1]), [3, 1, 1, 3, 2, 3, 2])

    def test_a_value_that_stays(self):
        for index, value in ((0, 1), (1, 3), (2, 2)):
            self.assertEqual(fit_if_value(index, value, [1, 1, 3, 1, 2, 1]), [3, 1, 1, 5, 2, 5, 2])
        for measurements in many_lists():
            for index, (value, weight) in enumerate(pairs(measurements)):
                answer = fit_if_value(index, value, measurements)
                self.assertEqual(answer, isotonic_fit(measurements)[:-2], (index, measurements))

    def test_a_change_that_merges_blocks(self):
        rising = of_weight(1, [1, 2, 3])
        self.assertEqual(fit_if_value(0, 9, rising), [3] + [14, 3] * 3)
        self.assertEqual(fit_if_value(1, 5, rising), [3, 1, 1, 4, 1, 4, 1])
        self.assertEqual(fit_if_value(1, 0, rising), [3, 1, 2, 1, 2, 3, 1])
        self.assertEqual(fit_if_value(2, 0, rising), [3] + [1, 1] * 3)
        # Equal means are one block.
        self.assertEqual(fit_if_value(1, 3, rising), [3, 1, 1, 3, 1, 3, 1])

    def test_a_change_that_parts_blocks(self):
        level = of_weight(1, [5, 5, 5])
        self.assertEqual(fit_if_value(0, 4, level), [3, 4, 1, 5, 1, 5, 1])
        self.assertEqual(fit_if_value(1, 6, level), [3, 5, 1, 11, 2, 11, 2])
        self.assertEqual(fit_if_value(1, 4, level), [3, 9, 2, 9, 2, 5, 1])
        self.assertEqual(fit_if_value(2, 6, level), [3, 5, 1, 5, 1, 6, 1])
        falling = of_weight(1, [3, 2, 1])
        self.assertEqual(fit_if_value(0, 0, falling), [3, 0, 1, 3, 2, 3, 2])
        self.assertEqual(fit_if_value(2, 9, falling), [3, 5, 2, 5, 2, 9, 1])

    def test_a_change_that_moves_a_measurement_from_one_block_to_another(self):
        self.assertEqual(fit_if_value(1, 8, of_weight(1, [4, 2, 6, 7])), [4, 4, 1] + [7, 1] * 3)
        self.assertEqual(fit_if_value(2, 1, of_weight(1, [4, 5, 7, 6])), [4] + [10, 3] * 3 + [6, 1])

    def test_different_weights(self):
        measurements = [1, 2, 4, 3, 6, 4]
        self.assertEqual(fit_if_value(0, 6, measurements), [3, 24, 5, 24, 5, 6, 1])
        self.assertEqual(fit_if_value(1, 9, measurements), [3, 1, 1, 51, 7, 51, 7])
        self.assertEqual(fit_if_value(2, 0, measurements), [3, 1, 1, 12, 7, 12, 7])

    def test_the_weight_at_the_index_stays(self):
        self.assertEqual(fit_if_value(1, 0, [5, 1, 7, 9]), [2, 1, 2, 1, 2])
        self.assertEqual(fit_if_value(1, 0, [5, 9, 7, 1]), [2, 9, 2, 9, 2])
        self.assertEqual(fit_if_value(0, 10, [5, 1, 0, 9]), [2, 1, 1, 1, 1])
        self.assertEqual(fit_if_value(0, 10, [5, 9, 0, 1]), [2, 9, 1, 9, 1])


class Edges(unittest.TestCase):
    def test_one_measurement(self):
        for value in (0, 1, 998, 999):
            for weight in (1, 9):
                for measured in (0, 5, 999):
                    self.assertEqual(fit_if_value(0, value, [measured, weight]), [1, value, 1])

    def test_ten_measurements(self):
        rising = of_weight(1, range(10))
        own = flat([(value, 1) for value in range(10)])
        self.assertEqual(fit_if_value(0, 999, rising), [10] + [522, 5] * 10)
        self.assertEqual(fit_if_value(0, 0, rising), [10] + own)
        self.assertEqual(fit_if_value(9, 0, rising), [10] + own[:12] + [21, 4] * 4)
        self.assertEqual(fit_if_value(9, 999, rising), [10] + own[:18] + [999, 1])
        self.assertEqual(fit_if_value(5, 999, rising), [10] + own[:10] + [1029, 5] * 5)

    def test_smallest_and_largest_values(self):
        self.assertEqual(fit_if_value(1, 999, [0, 1, 0, 9]), [2, 0, 1, 999, 1])
        self.assertEqual(fit_if_value(0, 999, [0, 1, 0, 9]), [2] + [999, 10] * 2)
        self.assertEqual(fit_if_value(0, 999, [0, 9, 0, 1]), [2] + [8991, 10] * 2)
        self.assertEqual(fit_if_value(0, 999, [999, 9, 999, 1]), [2] + [999, 1] * 2)
        self.assertEqual(fit_if_value(1, 0, [999, 1, 999, 9]), [2] + [999, 10] * 2)

    def test_zero_is_written_0_over_1(self):
        self.assertEqual(fit_if_value(0, 0, [5, 9, 0, 4]), [2, 0, 1, 0, 1])
        self.assertEqual(fit_if_value(1, 0, [0, 9, 999, 4, 7, 3]), [3, 0, 1, 0, 1, 7, 1])
        self.assertEqual(fit_if_value(0, 0, [999, 9, 998, 4]), [2, 0, 1, 998, 1])

    def test_form_of_the_answer(self):
        for measurements in small_and_scattered_lists():
            for index, value in changes_of(measurements):
                answer = fit_if_value(index, value, measurements)
                self.assertIs(type(answer), list)
                self.assertEqual({type(number) for number in answer}, {int})
                self.assertEqual(answer[0], len(measurements) // 2)
                self.assertEqual(len(answer), 1 + len(measurements))
                for numerator, denominator in pairs(answer[1:]):
                    self.assertGreaterEqual(numerator, 0)
                    self.assertGreaterEqual(denominator, 1)
                    self.assertEqual(gcd(numerator, denominator), 1, (index, value, measurements))


class WrongInputs(unittest.TestCase):
    def test_a_measurement_that_does_not_exist(self):
        for count in (1, 2, 3, 10):
            for index in (count, count + 1, 2 * count, 23, TOO_LARGE):
                for value in VALUES:
                    self.assertEqual(fit_if_value(index, value, [5, 2] * count), [-2], (count, index, value))

    def test_a_value_above_its_limit(self):
        for count in (1, 2, 3, 10):
            for index in range(count):
                for value in (1000, 1001, TOO_LARGE):
                    self.assertEqual(fit_if_value(index, value, [5, 2] * count), [-22], (count, index, value))

    def test_measurements_outside_limits(self):
        for index in INDEXES:
            for value in VALUES:
                check_refusals(self, lambda measurements: fit_if_value(index, value, measurements))

    def test_a_given_value_does_not_make_up_for_one_outside_limits(self):
        self.assertEqual(fit_if_value(0, 5, [1000, 1]), [-22])
        self.assertEqual(fit_if_value(2, 5, [1, 1, 2, 1, TOO_LARGE, 1]), [-22])


class WordsOfTheDocument(unittest.TestCase):
    def test_it_is_the_fit_of_a_list_in_which_the_value_was_put(self):
        for measurements in small_and_scattered_lists():
            for index, value in changes_of(measurements):
                changed = with_number(measurements, 2 * index, value)
                answer = fit_if_value(index, value, measurements)
                self.assertEqual(answer, isotonic_fit(changed)[:-2], (index, value, measurements))

    def test_max_min_formula(self):
        for measurements in small_and_scattered_lists():
            for index in range(len(measurements) // 2):
                for value in (0, 1, 700):
                    fit = max_min_fit(pairs(with_number(measurements, 2 * index, value)))
                    answer = fit_if_value(index, value, measurements)
                    self.assertEqual(rationals(answer[1:]), fit, (index, value, measurements))

    def test_monotonicity(self):
        for measurements in small_and_scattered_lists():
            for index in range(len(measurements) // 2):
                before = [0] * (len(measurements) // 2)
                for value in (0, 1, 2, 3, 5, 8, 9, 10, 100, 500, 998, 999):
                    after = rationals(fit_if_value(index, value, measurements)[1:])
                    self.assertTrue(all(one <= other for one, other in zip(before, after, strict=True)),
                                    (index, value, measurements))
                    before = after


class Purity(unittest.TestCase):
    def test_what_was_handed_in_stays_as_it_was(self):
        for index in INDEXES:
            for value in VALUES:
                check_left_as_it_was(self, lambda measurements: fit_if_value(index, value, measurements))

    def test_a_second_call_answers_as_the_first(self):
        for index in INDEXES:
            for value in VALUES:
                check_second_call(self, lambda measurements: fit_if_value(index, value, measurements))

    def test_the_given_value_is_not_kept(self):
        measurements = of_weight(1, [1, 3, 2])
        fit_if_value(1, 9, measurements)
        self.assertEqual(isotonic_fit(measurements), [3, 1, 1, 5, 2, 5, 2, 1, 2])
        self.assertEqual(fit_if_value(0, 1, measurements), [3, 1, 1, 5, 2, 5, 2])


if __name__ == "__main__":
    unittest.main()
