import unittest
from math import ceil, floor

from risingfits.regression import first_reaching, isotonic_fit
from tests.samples import (
    TOO_LARGE,
    check_left_as_it_was,
    check_refusals,
    check_second_call,
    every_list,
    flat,
    many_lists,
    max_min_fit,
    of_weight,
    pairs,
    rationals,
    scattered_lists,
)

VALUES = (0, 1, 5, 999, 1000, TOO_LARGE)


def answer_by_the_words(value, fit):
    reaching = [index for index, element in enumerate(fit) if element >= value]
    return [min(reaching)] if reaching else [-33]


def values_about(fit):
    """The whole numbers on either side of each fit and at it, and the outermost ones."""
    near = {floor(element) + step for element in fit for step in (-1, 0, 1, 2)}
    return sorted({value for value in near if value >= 0} | {0, 999, 1000, TOO_LARGE})


class OrdinaryInputs(unittest.TestCase):
    def test_examples_of_the_document(self):
        self.assertEqual(first_reaching(2, [1, 1, 3, 1, 2, 1]), [1])
        self.assertEqual(first_reaching(3, [1, 1, 3, 1, 2, 1]), [-33])

    def test_a_value_that_a_fit_equals(self):
        self.assertEqual(first_reaching(1, [1, 1, 3, 1, 2, 1]), [0])
        rising = of_weight(3, [2, 5, 8])
        self.assertEqual(first_reaching(2, rising), [0])
        self.assertEqual(first_reaching(5, rising), [1])
        self.assertEqual(first_reaching(8, rising), [2])

    def test_a_value_between_two_fits(self):
        rising = of_weight(3, [2, 5, 8])
        self.assertEqual(first_reaching(1, rising), [0])
        self.assertEqual(first_reaching(3, rising), [1])
        self.assertEqual(first_reaching(4, rising), [1])
        self.assertEqual(first_reaching(6, rising), [2])
        self.assertEqual(first_reaching(7, rising), [2])

    def test_a_value_above_every_fit(self):
        self.assertEqual(first_reaching(9, of_weight(3, [2, 5, 8])), [-33])
        self.assertEqual(first_reaching(5, of_weight(1, [5, 4, 3])), [-33])

    def test_the_first_of_a_block(self):
        self.assertEqual(first_reaching(4, of_weight(1, [4, 4, 4])), [0])
        self.assertEqual(first_reaching(4, of_weight(1, [1, 5, 4, 3, 9])), [1])
        self.assertEqual(first_reaching(5, of_weight(1, [1, 2, 3, 6, 4])), [3])

    def test_it_is_the_fit_and_not_the_measured_value_that_reaches(self):
        # The fits are 4, 4 and 9.
        measured = of_weight(1, [5, 3, 9])
        self.assertEqual(first_reaching(4, measured), [0])
        self.assertEqual(first_reaching(5, measured), [2])
        # The fits are 1, 4, 4 and 4: what is measured as 2 reaches 4 by its block.
        self.assertEqual(first_reaching(4, of_weight(1, [1, 4, 6, 2])), [1])
        self.assertEqual(first_reaching(6, of_weight(1, [1, 4, 6, 2])), [-33])
        self.assertEqual(first_reaching(3, of_weight(1, [4, 2, 3])), [0])

    def test_different_weights(self):
        # The fit of the last two is 19/4 or 21/4, as they weigh.
        self.assertEqual(first_reaching(5, [1, 9, 6, 1, 4, 3]), [-33])
        self.assertEqual(first_reaching(4, [1, 9, 6, 1, 4, 3]), [1])
        self.assertEqual(first_reaching(5, [1, 9, 6, 5, 4, 3]), [1])
        self.assertEqual(first_reaching(6, [1, 9, 6, 5, 4, 3]), [-33])

    def test_a_fit_that_a_value_misses_by_little(self):
        # The one fit of each is 81/82 and 83/82.
        below, above = flat([(1, 9)] * 9 + [(0, 1)]), flat([(2, 1)] + [(1, 9)] * 9)
        self.assertEqual(isotonic_fit(below)[1:3], [81, 82])
        self.assertEqual(first_reaching(1, below), [-33])
        self.assertEqual(isotonic_fit(above)[1:3], [83, 82])
        self.assertEqual(first_reaching(1, above), [0])
        self.assertEqual(first_reaching(2, above), [-33])


class Edges(unittest.TestCase):
    def test_every_fit_reaches_zero(self):
        for measurements in many_lists():
            self.assertEqual(first_reaching(0, measurements), [0], measurements)

    def test_one_measurement(self):
        for weight in (1, 9):
            for measured in (0, 1, 998, 999):
                for value in (0, 1, 2, 997, 998, 999, 1000, TOO_LARGE):
                    expected = [0] if value <= measured else [-33]
                    self.assertEqual(first_reaching(value, [measured, weight]), expected, (value, measured))

    def test_ten_measurements(self):
        rising = of_weight(9, range(990, 1000))
        for value in range(991, 1000):
            self.assertEqual(first_reaching(value, rising), [value - 990])
        self.assertEqual(first_reaching(990, rising), [0])
        self.assertEqual(first_reaching(1000, rising), [-33])
        falling = of_weight(1, range(10, 0, -1))
        self.assertEqual(first_reaching(5, falling), [0])
        self.assertEqual(first_reaching(6, falling), [-33])

    def test_the_last_measurement_alone(self):
        for count in range(2, 11):
            measurements = of_weight(1, [0] * (count - 1) + [1])
            self.assertEqual(first_reaching(1, measurements), [count - 1])

    def test_a_value_above_what_any_measurement_may_have(self):
        for value in (1000, 1001, 99999, 100000, TOO_LARGE - 1, TOO_LARGE):
            for count in (1, 2, 10):
                self.assertEqual(first_reaching(value, [999, 9] * count), [-33], (value, count))

    def test_every_value(self):
        for measurements in ([0, 1, 999, 9], [999, 1, 0, 9], of_weight(2, [0, 500, 250, 999, 998])):
            fit = max_min_fit(pairs(measurements))
            for value in range(1002):
                self.assertEqual(first_reaching(value, measurements), answer_by_the_words(value, fit))

    def test_form_of_the_answer(self):
        for measurements in many_lists():
            for value in (0, 1, 2, 500):
                answer = first_reaching(value, measurements)
                self.assertIs(type(answer), list)
                self.assertEqual([type(number) for number in answer], [int])
                self.assertTrue(answer == [-33] or 0 <= answer[0] < len(measurements) // 2, (value, measurements))


class WrongInputs(unittest.TestCase):
    def test_measurements_outside_limits(self):
        for value in VALUES:
            check_refusals(self, lambda measurements: first_reaching(value, measurements))

    def test_measurements_outside_limits_that_would_reach_the_value(self):
        self.assertEqual(first_reaching(1000, [1000, 1]), [-22])
        self.assertEqual(first_reaching(1, [1, 1, 2, 0]), [-22])
        self.assertEqual(first_reaching(1, [1, 1, 2]), [-22])


class WordsOfTheDocument(unittest.TestCase):
    def test_answers_worked_out_anew(self):
        for measurements in many_lists():
            fit = max_min_fit(pairs(measurements))
            for value in values_about(fit):
                answer = first_reaching(value, measurements)
                self.assertEqual(answer, answer_by_the_words(value, fit), (value, measurements))

    def test_it_agrees_with_isotonic_fit(self):
        for measurements in [*every_list(3, (0, 1, 2, 4), (1, 3)), *scattered_lists(200, 99)]:
            fit = rationals(isotonic_fit(measurements)[1:-2])
            for index, element in enumerate(fit):
                answer = first_reaching(floor(element), measurements)
                self.assertLessEqual(answer[0], index, measurements)
                self.assertGreaterEqual(fit[answer[0]], floor(element), measurements)
            self.assertEqual(first_reaching(floor(fit[-1]) + 1, measurements), [-33], measurements)
            above = first_reaching(ceil(fit[-1]), measurements)
            self.assertEqual(above == [-33], fit[-1].denominator > 1, measurements)


class Purity(unittest.TestCase):
    def test_what_was_handed_in_stays_as_it_was(self):
        for value in VALUES:
            check_left_as_it_was(self, lambda measurements: first_reaching(value, measurements))

    def test_a_second_call_answers_as_the_first(self):
        for value in VALUES:
            check_second_call(self, lambda measurements: first_reaching(value, measurements))


if __name__ == "__main__":
    unittest.main()
