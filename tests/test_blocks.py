import unittest
from itertools import groupby

from risingfits.regression import blocks
from tests.samples import (
    check_left_as_it_was,
    check_refusals,
    check_second_call,
    many_lists,
    max_min_fit,
    of_weight,
    pairs,
    weighted_mean,
)


def sizes_of_level_runs(sequence):
    return [len(list(run)) for element, run in groupby(sequence)]


def sizes_pooled_by_the_words(points):
    groups = []
    for point in points:
        groups.append([point])
        while len(groups) > 1 and weighted_mean(groups[-1]) <= weighted_mean(groups[-2]):
            last = groups.pop()
            groups[-1] = groups[-1] + last
    return [len(group) for group in groups]


class OrdinaryInputs(unittest.TestCase):
    def test_example_of_the_document(self):
        self.assertEqual(blocks([1, 1, 3, 1, 2, 1]), [2, 1, 2, 1])

    def test_different_weights(self):
        # The mean of the 7 and the 1 lies above the 4 or below it, as they weigh.
        self.assertEqual(blocks([4, 1, 7, 2, 1, 1]), [2, 1, 2, 1])
        self.assertEqual(blocks([4, 1, 7, 1, 1, 2]), [1, 3, 1])
        self.assertEqual(blocks([4, 9, 7, 3, 1, 4, 5, 1]), [2, 3, 1, 1])
        # What comes first takes part in each further merge with all its weight.
        self.assertEqual(blocks([9, 9, 0, 1, 8, 1, 9, 1]), [2, 3, 1, 1])
        self.assertEqual(blocks([9, 1, 0, 9, 8, 1, 9, 1]), [3, 2, 1, 1, 1])

    def test_a_list_that_rises_has_a_block_for_each(self):
        self.assertEqual(blocks(of_weight(3, [0, 1, 5, 6])), [4, 1, 1, 1, 1, 0])
        self.assertEqual(blocks([1, 9, 2, 1, 3, 5]), [3, 1, 1, 1, 0])

    def test_a_list_that_falls_has_one_block(self):
        self.assertEqual(blocks(of_weight(2, [9, 6, 3, 0])), [1, 4, 3])
        self.assertEqual(blocks([5, 1, 4, 9, 2, 3]), [1, 3, 2])

    def test_equal_values_have_one_block_and_no_descent(self):
        self.assertEqual(blocks(of_weight(1, [4, 4, 4])), [1, 3, 0])
        self.assertEqual(blocks([0, 9, 0, 1, 0, 5, 0, 2]), [1, 4, 0])
        self.assertEqual(blocks(of_weight(1, [1, 4, 4, 6])), [3, 1, 2, 1, 0])

    def test_descents_within_one_block(self):
        self.assertEqual(blocks(of_weight(1, [1, 9, 8, 7, 10])), [3, 1, 3, 1, 2])
        # The 3 is no descent, though it's less than the 5.
        self.assertEqual(blocks(of_weight(1, [5, 2, 3])), [1, 3, 1])

    def test_descents_in_several_blocks(self):
        self.assertEqual(blocks(of_weight(1, [2, 1, 4, 3, 6, 5])), [3, 2, 2, 2, 3])
        self.assertEqual(blocks(of_weight(1, [3, 2, 1, 5, 9, 8])), [3, 3, 1, 2, 3])

    def test_a_merge_that_sets_off_further_merges(self):
        self.assertEqual(blocks(of_weight(1, [2, 5, 6, 8, 0])), [2, 1, 4, 1])
        self.assertEqual(blocks([5, 1, 6, 1, 7, 1, 0, 9]), [1, 4, 1])
        self.assertEqual(blocks(of_weight(1, [6, 2, 8, 4])), [2, 2, 2, 2])
        self.assertEqual(blocks(of_weight(1, [6, 2, 8, 4, 0, 9])), [2, 5, 1, 3])

    def test_neighbouring_blocks_of_the_same_mean_are_one(self):
        self.assertEqual(blocks(of_weight(1, [3, 1, 2])), [1, 3, 1])
        self.assertEqual(blocks(of_weight(1, [2, 3, 1])), [1, 3, 1])
        self.assertEqual(blocks(of_weight(1, [3, 1, 4, 0])), [1, 4, 2])
        self.assertEqual(blocks([5, 2, 7, 1, 3, 1, 9, 4]), [2, 3, 1, 1])


class Edges(unittest.TestCase):
    def test_one_measurement(self):
        for value in (0, 999):
            for weight in (1, 9):
                self.assertEqual(blocks([value, weight]), [1, 1, 0])

    def test_ten_measurements(self):
        self.assertEqual(blocks(of_weight(9, range(990, 1000))), [10] + [1] * 10 + [0])
        self.assertEqual(blocks(of_weight(1, range(9, -1, -1))), [1, 10, 9])
        self.assertEqual(blocks(of_weight(1, [0, 999] * 5)), [3, 1, 8, 1, 4])

    def test_smallest_and_largest_values_and_weights(self):
        self.assertEqual(blocks([0, 1, 999, 9]), [2, 1, 1, 0])
        self.assertEqual(blocks([999, 9, 0, 1]), [1, 2, 1])
        self.assertEqual(blocks([0, 9, 999, 1, 998, 9]), [2, 1, 2, 1])
        self.assertEqual(blocks([0, 1, 0, 9]), [1, 2, 0])

    def test_form_of_the_answer(self):
        for measurements in many_lists():
            answer = blocks(measurements)
            self.assertIs(type(answer), list)
            self.assertEqual({type(number) for number in answer}, {int}, measurements)
            self.assertEqual(len(answer), answer[0] + 2, measurements)
            self.assertGreaterEqual(min(answer[1:-1]), 1, measurements)
            self.assertEqual(sum(answer[1:-1]), len(measurements) // 2, measurements)


class WrongInputs(unittest.TestCase):
    def test_outside_limits(self):
        check_refusals(self, blocks)


class WordsOfTheDocument(unittest.TestCase):
    def test_sizes_are_those_of_the_pooling(self):
        for measurements in many_lists():
            self.assertEqual(blocks(measurements)[1:-1], sizes_pooled_by_the_words(pairs(measurements)), measurements)

    def test_sizes_are_those_of_the_level_runs_of_the_fit(self):
        # "At most" merges blocks of the same mean, so no two neighbours share one.
        for measurements in many_lists():
            fit = max_min_fit(pairs(measurements))
            self.assertEqual(blocks(measurements)[1:-1], sizes_of_level_runs(fit), measurements)

    def test_descents(self):
        for measurements in many_lists():
            values = measurements[0::2]
            descents = sum(1 for one, other in zip(values, values[1:]) if other < one)
            self.assertEqual(blocks(measurements)[-1], descents, measurements)


class Purity(unittest.TestCase):
    def test_what_was_handed_in_stays_as_it_was(self):
        check_left_as_it_was(self, blocks)

    def test_a_second_call_answers_as_the_first(self):
        check_second_call(self, blocks)


if __name__ == "__main__":
    unittest.main()
