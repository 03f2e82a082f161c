import itertools
import math
import unittest

from helper import (
    PAIRS_OUTSIDE_LIMITS,
    PLAN_FOR_EIGHT,
    PLAN_FOR_FOUR,
    FixedList,
    assert_whole_numbers,
    flat,
    fractions_of,
    mixed_pairs,
    mixed_values,
    reckon,
)
from meanpairs.averages import apply_averages, influence


class Case(unittest.TestCase):
    def check(self, count, index, pairs, expected):
        answer = influence(count, index, list(pairs))
        assert_whole_numbers(self, answer)
        self.assertEqual(answer, expected)

    def check_against_reckoning(self, count, index, pairs):
        initial = [int(place == index) for place in range(count)]
        self.check(count, index, pairs, [count] + flat(reckon(initial, pairs)))


class OrdinaryTest(Case):
    def test_each_index_of_two_values(self):
        self.check(2, 0, [0, 1], [2, 1, 2, 1, 2])
        self.check(2, 1, [0, 1], [2, 1, 2, 1, 2])

    def test_each_index_of_three_values(self):
        self.check(3, 0, [0, 1, 1, 2], [3, 1, 2, 1, 4, 1, 4])
        self.check(3, 1, [0, 1, 1, 2], [3, 1, 2, 1, 4, 1, 4])
        self.check(3, 2, [0, 1, 1, 2], [3, 0, 1, 1, 2, 1, 2])

    def test_each_index_of_four_values_that_come_out_equal(self):
        for index in range(4):
            with self.subTest(index=index):
                self.check(4, index, PLAN_FOR_FOUR, [4] + [1, 4] * 4)

    def test_value_that_no_pair_touches(self):
        self.check(3, 2, [0, 1], [3, 0, 1, 0, 1, 1, 1])
        self.check(3, 0, [1, 2], [3, 1, 1, 0, 1, 0, 1])

    def test_parameters_bear_the_names_of_the_interface(self):
        self.assertEqual(influence(count=2, index=1, pairs=[]), [2, 0, 1, 1, 1])

    def test_pairs_are_averaged_in_their_order(self):
        self.check(3, 0, [1, 2, 0, 1], [3, 1, 2, 1, 2, 0, 1])

    def test_greater_index_first(self):
        self.check(3, 0, [1, 0, 2, 1], [3, 1, 2, 1, 4, 1, 4])
        self.check(3, 2, [2, 0], [3, 1, 2, 0, 1, 1, 2])

    def test_pair_several_times(self):
        self.check(3, 0, [0, 1, 0, 1, 1, 0], [3, 1, 2, 1, 2, 0, 1])
        self.check(3, 0, [0, 1, 1, 2, 0, 1], [3, 3, 8, 3, 8, 1, 4])

    def test_every_short_sequence_at_every_index(self):
        steps = [[i, j] for i, j in itertools.permutations(range(3), 2)]
        for length in range(4):
            for chosen in itertools.product(steps, repeat=length):
                for index in range(3):
                    self.check_against_reckoning(3, index, sum(chosen, []))

    def test_long_sequences_at_every_index(self):
        for count in range(2, 9):
            for index in range(count):
                for seed in range(10):
                    self.check_against_reckoning(count, index, mixed_pairs(count, 20, seed))


class RationalTest(Case):
    def test_lowest_terms(self):
        self.check(2, 0, [0, 1] * 2, [2, 1, 2, 1, 2])
        self.check(3, 0, [0, 1, 0, 2, 1, 2], [3, 1, 4, 3, 8, 3, 8])

    def test_zero_is_zero_over_one(self):
        self.check(4, 0, [2, 3, 1, 2], [4, 1, 1, 0, 1, 0, 1, 0, 1])

    def test_every_denominator_is_positive_and_prime_to_its_numerator(self):
        for seed in range(30):
            answer = influence(6, seed % 6, mixed_pairs(6, 20, seed))
            for numerator, denominator in zip(answer[1::2], answer[2::2], strict=True):
                self.assertGreaterEqual(denominator, 1)
                self.assertEqual(math.gcd(numerator, denominator), 1)


class EdgeTest(Case):
    def test_one_value_without_a_pair(self):
        self.check(1, 0, [], [1, 1, 1])

    def test_eight_values(self):
        for index in range(8):
            with self.subTest(index=index):
                self.check(8, index, PLAN_FOR_EIGHT, [8] + [1, 8] * 8)
        self.check(8, 7, [7, 0], [8, 1, 2] + [0, 1] * 6 + [1, 2])

    def test_no_pair_at_the_first_the_last_and_every_other_index(self):
        for count in range(1, 9):
            for index in range(count):
                with self.subTest(count=count, index=index):
                    self.check(count, index, [], [count] + [0, 1] * index + [1, 1] + [0, 1] * (count - index - 1))

    def test_twenty_pairs(self):
        self.check(2, 1, [0, 1] * 20, [2, 1, 2, 1, 2])
        pairs = [0, 1, 1, 2] * 10
        self.assertEqual(max(value.denominator for value in reckon([1, 0, 0], pairs)), 2**20)
        for index in range(3):
            self.check_against_reckoning(3, index, pairs)


class RefusalTest(Case):
    def test_count_outside_its_limits(self):
        for count in (0, 9, 10, 4294967295):
            with self.subTest(count=count):
                self.check(count, 0, [], [-22])
                self.check(count, 0, [0, 1], [-22])

    def test_index_that_does_not_exist(self):
        for count in range(1, 9):
            for index in (count, count + 1, 4294967295):
                with self.subTest(count=count, index=index):
                    self.check(count, index, [], [-2])

    def test_pairs_outside_their_limits(self):
        for name, pairs in PAIRS_OUTSIDE_LIMITS.items():
            for count in (2, 3, 8):
                with self.subTest(name, count=count):
                    self.check(count, count - 1, pairs, [-22])

    def test_first_index_in_pairs_that_does_not_exist(self):
        for count in range(2, 9):
            with self.subTest(count=count):
                self.check(count, 0, [0, count], [-22])
                self.check(count, 0, [count, 0], [-22])
                self.check_against_reckoning(count, 0, [0, count - 1])

    def test_one_value_has_no_pair(self):
        self.check(1, 0, [0, 1], [-22])
        self.check(1, 0, [0, 0], [-22])
        self.check(1, 0, [0], [-22])


class OrderOfErrorsTest(Case):
    def test_count_goes_ahead_of_index(self):
        for count in (0, 9, 4294967295):
            for index in (count, 4294967295):
                with self.subTest(count=count, index=index):
                    self.check(count, index, [], [-22])

    def test_index_goes_ahead_of_pairs(self):
        for name, pairs in PAIRS_OUTSIDE_LIMITS.items():
            for count in (2, 8):
                with self.subTest(name, count=count):
                    self.check(count, count, pairs, [-2])
                    self.check(count, 4294967295, pairs, [-2])
        self.check(1, 1, [0, 1], [-2])

    def test_count_goes_ahead_of_index_and_pairs(self):
        self.check(0, 0, [0], [-22])
        self.check(9, 9, [0, 0], [-22])


class LinearityTest(Case):
    def test_every_value_is_the_sum_of_initial_values_times_influence(self):
        for count in range(1, 9):
            for seed in range(25):
                values = mixed_values(count, seed)
                pairs = mixed_pairs(count, seed % 21, seed) if count > 1 else []
                averaged = fractions_of(apply_averages(values, pairs)[1:])
                influences = [fractions_of(influence(count, i, pairs)[1:]) for i in range(count)]
                with self.subTest(values=values, pairs=pairs):
                    self.assertEqual(len(averaged), count)
                    for place in range(count):
                        total = sum(values[i] * influences[i][place] for i in range(count))
                        self.assertEqual(averaged[place], total)


class PurityTest(Case):
    def test_what_is_handed_in_is_not_changed(self):
        pairs = FixedList([0, 1, 2, 1])
        self.assertEqual(influence(3, 0, pairs), [3, 1, 2, 1, 4, 1, 4])
        self.assertEqual(pairs, [0, 1, 2, 1])

    def test_what_is_refused_is_not_changed(self):
        pairs = FixedList([0, 1, 1])
        self.assertEqual(influence(2, 0, pairs), [-22])
        self.assertEqual(influence(2, 2, pairs), [-2])
        self.assertEqual(influence(9, 0, pairs), [-22])
        self.assertEqual(pairs, [0, 1, 1])

    def test_a_second_call_answers_as_the_first(self):
        first = influence(3, 0, [0, 1])
        kept = list(first)
        self.assertEqual(influence(3, 3, [0, 1]), [-2])
        self.assertEqual(influence(3, 2, [1, 2]), [3, 0, 1, 1, 2, 1, 2])
        self.assertEqual(apply_averages([0, 4], [0, 1]), [1, 2, 1, 2, 1])
        first.clear()
        self.assertEqual(influence(3, 0, [0, 1]), kept)

    def test_a_changed_refusal_does_not_come_back(self):
        influence(0, 0, []).append(7)
        influence(1, 1, []).append(7)
        self.assertEqual(influence(0, 0, []), [-22])
        self.assertEqual(influence(1, 1, []), [-2])


if __name__ == "__main__":
    unittest.main()
