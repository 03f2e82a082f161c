import itertools
import math
import unittest

from helper import (
    PAIRS_OUTSIDE_LIMITS,
    PLAN_FOR_EIGHT,
    PLAN_FOR_FOUR,
    VALUES_OUTSIDE_LIMITS,
    FixedList,
    assert_whole_numbers,
    flat,
    fractions_of,
    mixed_pairs,
    mixed_values,
    reckon,
)
from meanpairs.averages import apply_averages


class Case(unittest.TestCase):
    def check(self, values, pairs, expected):
        answer = apply_averages(list(values), list(pairs))
        assert_whole_numbers(self, answer)
        self.assertEqual(answer, expected)


class OrdinaryTest(Case):
    def test_example_of_the_document(self):
        self.check([0, 4], [0, 1], [1, 2, 1, 2, 1])

    def test_parameters_bear_the_names_of_the_interface(self):
        self.assertEqual(apply_averages(values=[0, 4], pairs=[0, 1]), [1, 2, 1, 2, 1])

    def test_values_come_out_equal(self):
        self.check([0, 4, 8], [0, 2], [1, 4, 1, 4, 1, 4, 1])
        self.check([1, 2, 3, 6], PLAN_FOR_FOUR, [1] + [3, 1] * 4)
        self.check([7, 0, 1, 2, 3, 4, 5, 6], PLAN_FOR_EIGHT, [1] + [7, 2] * 8)
        self.check([5, 5, 5], [], [1, 5, 1, 5, 1, 5, 1])

    def test_values_come_out_unequal(self):
        self.check([0, 4, 8], [0, 1], [0, 2, 1, 2, 1, 8, 1])
        self.check([0, 1, 0], [0, 1, 1, 2], [0, 1, 2, 1, 4, 1, 4])
        self.check([0, 0, 0, 99], [0, 1, 2, 3], [0, 0, 1, 0, 1, 99, 2, 99, 2])

    def test_one_different_value_is_enough_wherever_it_is(self):
        for place in range(8):
            values = [6] * 8
            values[place] = 7
            with self.subTest(place=place):
                self.check(values, [], [0] + flat(reckon(values, [])))

    def test_equal_numerators_or_denominators_alone_are_not_equal_values(self):
        self.check([1, 0, 0], [0, 1, 1, 2], [0, 1, 2, 1, 4, 1, 4])
        self.check([1, 0, 1], [0, 1], [0, 1, 2, 1, 2, 1, 1])
        self.check([1, 0, 3, 0], [0, 1, 2, 3], [0, 1, 2, 1, 2, 3, 2, 3, 2])

    def test_pairs_are_averaged_in_their_order(self):
        self.check([0, 4, 8], [0, 1, 1, 2], [0, 2, 1, 5, 1, 5, 1])
        self.check([0, 4, 8], [1, 2, 0, 1], [0, 3, 1, 3, 1, 6, 1])

    def test_greater_index_first(self):
        self.check([0, 4, 8], [2, 0], [1, 4, 1, 4, 1, 4, 1])
        self.check([1, 2, 5], [2, 1, 1, 0], [0, 9, 4, 9, 4, 7, 2])

    def test_pair_several_times(self):
        self.check([3, 8], [0, 1, 0, 1, 1, 0], [1, 11, 2, 11, 2])
        self.check([0, 4, 8], [0, 1, 1, 2, 0, 1], [0, 7, 2, 7, 2, 5, 1])

    def test_every_short_sequence(self):
        steps = [[i, j] for i, j in itertools.permutations(range(3), 2)]
        for values in ([0, 4, 8], [1, 0, 99], [7, 7, 2]):
            for length in range(4):
                for chosen in itertools.product(steps, repeat=length):
                    self.check_against_reckoning(values, sum(chosen, []))

    def test_long_sequences(self):
        for count in range(2, 9):
            for seed in range(20):
                self.check_against_reckoning(mixed_values(count, seed), mixed_pairs(count, 20, seed))

    def check_against_reckoning(self, values, pairs):
        expected = reckon(values, pairs)
        self.check(values, pairs, [int(len(set(expected)) == 1)] + flat(expected))


class RationalTest(Case):
    def test_lowest_terms(self):
        self.check([1, 3], [0, 1], [1, 2, 1, 2, 1])
        self.check([1, 2], [0, 1], [1, 3, 2, 3, 2])
        self.check([1, 0, 2, 1], [0, 1, 2, 3, 0, 2], [0, 1, 1, 1, 2, 1, 1, 3, 2])

    def test_zero_is_zero_over_one(self):
        self.check([0, 0], [0, 1], [1, 0, 1, 0, 1])
        self.check([0, 0, 3], [1, 0, 0, 1], [0, 0, 1, 0, 1, 3, 1])

    def test_every_denominator_is_positive_and_prime_to_its_numerator(self):
        for seed in range(30):
            answer = apply_averages(mixed_values(6, seed), mixed_pairs(6, 20, seed))
            for numerator, denominator in zip(answer[1::2], answer[2::2], strict=True):
                self.assertGreaterEqual(denominator, 1)
                self.assertEqual(math.gcd(numerator, denominator), 1)


class EdgeTest(Case):
    def test_one_value_without_a_pair(self):
        self.check([0], [], [1, 0, 1])
        self.check([42], [], [1, 42, 1])
        self.check([99], [], [1, 99, 1])

    def test_smallest_and_largest_value(self):
        self.check([0, 99], [0, 1], [1, 99, 2, 99, 2])
        self.check([99, 99], [0, 1], [1, 99, 1, 99, 1])

    def test_eight_values_without_a_pair(self):
        self.check([0, 99, 1, 98, 2, 97, 3, 96], [], [0, 0, 1, 99, 1, 1, 1, 98, 1, 2, 1, 97, 1, 3, 1, 96, 1])

    def test_eight_values_with_first_and_last_index(self):
        self.check([0, 1, 2, 3, 4, 5, 6, 99], [7, 0], [0, 99, 2, 1, 1, 2, 1, 3, 1, 4, 1, 5, 1, 6, 1, 99, 2])

    def test_no_pair(self):
        self.check([3, 5], [], [0, 3, 1, 5, 1])

    def test_twenty_pairs(self):
        self.check([1, 2], [0, 1] * 20, [1, 3, 2, 3, 2])
        pairs = [0, 1, 1, 2] * 10
        expected = reckon([99, 0, 0], pairs)
        self.assertEqual(max(value.denominator for value in expected), 2**20)
        self.check([99, 0, 0], pairs, [0] + flat(expected))


class RefusalTest(Case):
    def test_values_outside_their_limits(self):
        for name, values in VALUES_OUTSIDE_LIMITS.items():
            with self.subTest(name):
                self.check(values, [], [-22])

    def test_nine_values_with_pairs_that_exist(self):
        self.check([1] * 9, [0, 8], [-22])
        self.check([1] * 10, [0, 1], [-22])

    def test_pairs_outside_their_limits(self):
        for name, pairs in PAIRS_OUTSIDE_LIMITS.items():
            for count in (2, 3, 8):
                with self.subTest(name, count=count):
                    self.check([1] * count, pairs, [-22])

    def test_first_index_that_does_not_exist(self):
        for count in range(2, 9):
            with self.subTest(count=count):
                self.check([1] * count, [0, count], [-22])
                self.check([1] * count, [count, 0], [-22])
                self.check([1] * count, [0, count - 1], [1] + [1, 1] * count)

    def test_one_value_has_no_pair(self):
        self.check([5], [0, 1], [-22])
        self.check([5], [0, 0], [-22])
        self.check([5], [0], [-22])

    def test_values_and_pairs_outside_their_limits(self):
        self.check([100, 1], [0, 0], [-22])
        self.check([], [0, 1], [-22])
        self.check([], [0], [-22])
        self.check([1] * 9, [0, 9], [-22])
        self.check([4294967295], [0, 1] * 22, [-22])


class ConservationTest(Case):
    def test_sum_stays_and_no_value_leaves_the_range(self):
        for count in range(1, 9):
            for seed in range(25):
                values = mixed_values(count, seed)
                pairs = mixed_pairs(count, seed % 21, seed) if count > 1 else []
                averaged = fractions_of(apply_averages(list(values), pairs)[1:])
                with self.subTest(values=values, pairs=pairs):
                    self.assertEqual(len(averaged), count)
                    self.assertEqual(sum(averaged), sum(values))
                    self.assertGreaterEqual(min(averaged), min(values))
                    self.assertLessEqual(max(averaged), max(values))


class PurityTest(Case):
    def test_what_is_handed_in_is_not_changed(self):
        values = FixedList([0, 4, 8])
        pairs = FixedList([0, 1, 2, 1])
        self.assertEqual(apply_averages(values, pairs), [0, 2, 1, 5, 1, 5, 1])
        self.assertEqual(values, [0, 4, 8])
        self.assertEqual(pairs, [0, 1, 2, 1])

    def test_what_is_refused_is_not_changed(self):
        values = FixedList([0, 100])
        pairs = FixedList([0, 1, 1])
        self.assertEqual(apply_averages(values, pairs), [-22])
        self.assertEqual(apply_averages(FixedList([0, 1]), pairs), [-22])
        self.assertEqual(values, [0, 100])
        self.assertEqual(pairs, [0, 1, 1])

    def test_a_second_call_answers_as_the_first(self):
        first = apply_averages([0, 4, 8], [0, 1])
        kept = list(first)
        self.assertEqual(apply_averages([100], []), [-22])
        self.assertEqual(apply_averages([1, 2], [0, 1]), [1, 3, 2, 3, 2])
        first.clear()
        self.assertEqual(apply_averages([0, 4, 8], [0, 1]), kept)

    def test_a_changed_refusal_does_not_come_back(self):
        apply_averages([], []).append(7)
        self.assertEqual(apply_averages([], []), [-22])


if __name__ == "__main__":
    unittest.main()
