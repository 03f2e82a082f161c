import itertools
import math
import unittest
from fractions import Fraction

from helper import (
    VALUES_OUTSIDE_LIMITS,
    FixedList,
    assert_whole_numbers,
    flat,
    fractions_of,
    greedy_pairs,
    mixed_values,
    reckon,
)
from meanpairs.averages import apply_averages, greedy_averaging, spread

STEPS_OUTSIDE_LIMITS = (13, 14, 20, 100, 2147483648, 4294967295)


class Case(unittest.TestCase):
    def check(self, steps, values, expected):
        answer = greedy_averaging(steps, list(values))
        assert_whole_numbers(self, answer)
        self.assertEqual(answer, expected, (steps, values))

    def check_pairs(self, values, pairs):
        """That the greedy averages are those of these pairs, step by step."""
        for steps in range(len(pairs) // 2 + 1):
            averaged = reckon(values, pairs[:2 * steps])
            self.check(steps, values, [int(len(set(averaged)) == 1)] + flat(averaged))


class OrdinaryTest(Case):
    def test_example_of_the_document(self):
        self.check(1, [0, 4, 8], [1, 4, 1, 4, 1, 4, 1])

    def test_parameters_bear_the_names_of_the_interface(self):
        self.assertEqual(greedy_averaging(steps=1, values=[0, 4, 8]), [1, 4, 1, 4, 1, 4, 1])

    def test_values_come_out_equal(self):
        self.check(1, [0, 4], [1, 2, 1, 2, 1])
        self.check(1, [1, 2], [1, 3, 2, 3, 2])
        self.check(2, [0, 8, 0, 8], [1] + [4, 1] * 4)
        self.check(2, [1, 2, 3, 4], [1] + [5, 2] * 4)
        self.check(4, [0, 99, 1, 98, 2, 97, 3, 96], [1] + [99, 2] * 8)

    def test_values_come_out_unequal(self):
        self.check(1, [0, 4, 9], [0, 9, 2, 4, 1, 9, 2])
        self.check(1, [0, 8, 0, 8], [0, 4, 1, 4, 1, 0, 1, 8, 1])
        self.check(2, [0, 0, 99], [0, 99, 4, 99, 4, 99, 2])
        self.check(3, [0, 99, 1, 98, 2, 97, 3, 96], [0] + [99, 2] * 6 + [3, 1, 96, 1])

    def test_one_different_value_is_enough_wherever_it_is(self):
        for place in range(8):
            values = [6] * 8
            values[place] = 7
            self.check(0, values, [0] + flat(reckon(values, [])))

    def test_many_values_at_every_number_of_steps(self):
        for count in range(1, 9):
            for seed in range(25):
                values = mixed_values(count, seed)
                self.check_pairs(values, greedy_pairs(values, 12))

    def test_every_three_small_values(self):
        for values in itertools.product(range(5), repeat=3):
            self.check_pairs(values, greedy_pairs(values, 12))


class BestPairTest(Case):
    def test_value_at_the_first_index_is_the_smaller_one(self):
        self.check(1, [1, 5, 9, 6], [0, 5, 1, 5, 1, 5, 1, 6, 1])
        self.check(1, [5, 1, 6, 9], [0, 5, 1, 5, 1, 6, 1, 5, 1])

    def test_value_at_the_first_index_is_the_greater_one(self):
        self.check(1, [9, 5, 1, 6], [0, 5, 1, 5, 1, 5, 1, 6, 1])
        self.check(1, [5, 9, 6, 1], [0, 5, 1, 5, 1, 6, 1, 5, 1])

    def test_every_pair_of_indices(self):
        for count in range(2, 9):
            for i, j in itertools.permutations(range(count), 2):
                values = [50] * count
                values[i] = 11
                values[j] = 90
                expected = [50] * count
                expected[i] = expected[j] = Fraction(101, 2)
                self.check(1, values, [int(count == 2)] + flat([Fraction(value) for value in expected]))

    def test_absolute_difference_counts_and_not_the_difference(self):
        self.check(1, [5, 0, 3], [0, 5, 2, 5, 2, 3, 1])
        self.check(1, [3, 5, 0], [0, 3, 1, 5, 2, 5, 2])
        self.check(1, [0, 3, 2, 9, 1], [0, 9, 2, 3, 1, 2, 1, 9, 2, 1, 1])
        self.check(1, [9, 3, 2, 0, 1], [0, 9, 2, 3, 1, 2, 1, 9, 2, 1, 1])

    def test_fractions_whose_denominators_differ(self):
        # Afterwards: 99/2 99/2 0, then 99/4 99/2 99/4, then 297/8 297/8 99/4, then 495/16 297/8 495/16.
        self.check_pairs([99, 0, 0], [0, 1, 0, 2, 0, 1, 0, 2])
        self.check(4, [99, 0, 0], [0, 495, 16, 297, 8, 495, 16])
        self.check(12, [99, 0, 0], [0, 135135, 4096, 67617, 2048, 135135, 4096])

    def test_numerators_alone_would_mislead(self):
        # After one step the values are 13/2, 13/2, 9 and 5: 9 lies farthest from 5, though 13 is the greater number.
        self.check_pairs([1, 12, 9, 5], [0, 1, 2, 3])
        self.check(2, [1, 12, 9, 5], [0, 13, 2, 13, 2, 7, 1, 7, 1])

    def test_best_pair_may_have_equal_numerators(self):
        self.check_pairs([0, 11, 0, 5], [0, 1, 0, 2, 0, 1])
        self.check(2, [0, 11, 0, 5], [0, 11, 4, 11, 2, 11, 4, 5, 1])
        self.check(3, [0, 11, 0, 5], [0, 33, 8, 33, 8, 11, 4, 5, 1])

    def test_each_step_takes_the_best_pair_of_what_stands_then(self):
        self.check_pairs([0, 10, 4, 5], [0, 1, 0, 2, 1, 0])
        self.check_pairs([2, 3, 5, 99], [0, 3, 0, 1, 2, 3])


class TieTest(Case):
    def test_first_of_several_best_pairs(self):
        self.check_pairs([0, 8, 0, 8], [0, 1, 2, 3])
        self.check_pairs([8, 0, 8, 0], [0, 1, 2, 3])
        self.check_pairs([0, 0, 8, 8], [0, 2, 1, 3])
        self.check_pairs([8, 8, 0, 0], [0, 2, 1, 3])
        self.check_pairs([0, 8, 8, 0], [0, 1, 2, 3])

    def test_value_that_lies_in_several_best_pairs(self):
        self.check(1, [0, 4, 4, 8, 0, 8], [0, 4, 1, 4, 1, 4, 1, 4, 1, 0, 1, 8, 1])
        self.check(1, [4, 0, 0, 8], [0, 4, 1, 4, 1, 0, 1, 4, 1])
        self.check(1, [4, 8, 4, 0, 0], [0, 4, 1, 4, 1, 4, 1, 4, 1, 0, 1])
        self.check(1, [3, 0, 6], [1, 3, 1, 3, 1, 3, 1])
        self.check(1, [0, 3, 6, 0], [0, 3, 1, 3, 1, 3, 1, 0, 1])

    def test_ties_among_fractions(self):
        # After one step 1/2 stands at 0 and 1 and lies equally far from each of the others.
        self.check_pairs([0, 1, 0, 0], [0, 1, 0, 2, 1, 3])
        self.check_pairs([0, 1, 1, 1], [0, 1, 0, 2, 1, 3])
        self.check(2, [0, 1, 0, 0], [0, 1, 4, 1, 2, 1, 4, 0, 1])

    def test_eight_values_of_two_kinds(self):
        self.check_pairs([0, 9] * 4, [0, 1, 2, 3, 4, 5, 6, 7])
        self.check_pairs([0] * 4 + [9] * 4, [0, 4, 1, 5, 2, 6, 3, 7])
        self.check_pairs([9] * 4 + [0] * 4, [0, 4, 1, 5, 2, 6, 3, 7])

    def test_all_values_equal(self):
        for count in range(1, 9):
            for value in (0, 7, 99):
                for steps in range(13):
                    self.check(steps, [value] * count, [1] + [value, 1] * count)

    def test_further_steps_leave_values_that_came_out_equal(self):
        for steps in range(1, 13):
            self.check(steps, [0, 4, 8], [1, 4, 1, 4, 1, 4, 1])
            self.check(steps, [1, 2], [1, 3, 2, 3, 2])


class RationalTest(Case):
    def test_lowest_terms(self):
        self.check(1, [1, 3], [1, 2, 1, 2, 1])
        self.check(1, [1, 2], [1, 3, 2, 3, 2])

    def test_zero_is_zero_over_one(self):
        self.check(0, [0], [1, 0, 1])
        self.check(1, [0, 0], [1, 0, 1, 0, 1])
        self.check(1, [0, 0, 3, 3], [0, 3, 2, 0, 1, 3, 2, 3, 1])

    def test_every_denominator_is_positive_and_prime_to_its_numerator(self):
        for count in range(1, 9):
            for seed in range(25):
                answer = greedy_averaging(seed % 13, mixed_values(count, seed))
                for numerator, denominator in zip(answer[1::2], answer[2::2], strict=True):
                    self.assertGreaterEqual(denominator, 1)
                    self.assertEqual(math.gcd(numerator, denominator), 1)


class EdgeTest(Case):
    def test_no_step(self):
        self.check(0, [3, 5], [0, 3, 1, 5, 1])
        self.check(0, [5, 5], [1, 5, 1, 5, 1])
        self.check(0, [0, 99, 1, 98, 2, 97, 3, 96], [0, 0, 1, 99, 1, 1, 1, 98, 1, 2, 1, 97, 1, 3, 1, 96, 1])

    def test_twelve_steps(self):
        self.check(12, [0, 99], [1, 99, 2, 99, 2])
        self.check(12, [0, 99, 1, 98, 2, 97, 3, 96], [1] + [99, 2] * 8)
        values = [0, 1, 4, 9, 16, 25, 36, 99]
        self.check(12, values, [0] + flat(reckon(values, greedy_pairs(values, 12))))
        self.assertNotEqual(greedy_averaging(12, values), greedy_averaging(11, values))

    def test_one_value_stays_at_any_number_of_steps(self):
        for value in (0, 1, 42, 99):
            for steps in range(13):
                self.check(steps, [value], [1, value, 1])

    def test_eight_values_with_first_and_last_index(self):
        self.check(1, [0, 1, 2, 3, 4, 5, 6, 99], [0, 99, 2, 1, 1, 2, 1, 3, 1, 4, 1, 5, 1, 6, 1, 99, 2])
        self.check(1, [50, 51, 52, 53, 54, 55, 0, 99], [0, 50, 1, 51, 1, 52, 1, 53, 1, 54, 1, 55, 1, 99, 2, 99, 2])

    def test_smallest_and_largest_value(self):
        self.check(1, [0, 99], [1, 99, 2, 99, 2])
        self.check(1, [99, 0], [1, 99, 2, 99, 2])
        self.check(1, [99, 99, 0], [0, 99, 2, 99, 1, 99, 2])


class RefusalTest(Case):
    def test_steps_outside_their_limits(self):
        for steps in STEPS_OUTSIDE_LIMITS:
            for values in ([5], [0, 4, 8], [99] * 8):
                self.check(steps, values, [-22])

    def test_values_outside_their_limits(self):
        for name, values in VALUES_OUTSIDE_LIMITS.items():
            for steps in (0, 1, 12):
                with self.subTest(name, steps=steps):
                    self.check(steps, values, [-22])

    def test_steps_and_values_outside_their_limits(self):
        for steps in STEPS_OUTSIDE_LIMITS:
            for values in VALUES_OUTSIDE_LIMITS.values():
                self.check(steps, values, [-22])


class ConservationTest(Case):
    def test_sum_stays_and_no_value_leaves_the_range(self):
        for count in range(1, 9):
            for seed in range(25):
                values = mixed_values(count, seed)
                for steps in range(13):
                    averaged = fractions_of(greedy_averaging(steps, values)[1:])
                    self.assertEqual(len(averaged), count)
                    self.assertEqual(sum(averaged), sum(values))
                    self.assertGreaterEqual(min(averaged), min(values))
                    self.assertLessEqual(max(averaged), max(values))


class SquaresTest(Case):
    def test_a_step_reduces_the_sum_of_the_squares_unless_all_values_are_equal(self):
        compared = {0: 0, 1: 0}
        for count in range(1, 9):
            for values in [mixed_values(count, seed) for seed in range(25)] + [[7] * count]:
                for steps in range(12):
                    equal, *numbers = greedy_averaging(steps, values)
                    before = sum(value**2 for value in fractions_of(numbers))
                    behind = sum(value**2 for value in fractions_of(greedy_averaging(steps + 1, values)[1:]))
                    compared[equal] += 1
                    if equal:
                        self.assertEqual(behind, before)
                    else:
                        self.assertLess(behind, before)
        self.assertGreater(min(compared.values()), 100)


class ApplyAveragesTest(Case):
    def test_answer_is_that_of_apply_averages_for_the_pairs_that_were_taken(self):
        for count in range(1, 9):
            for seed in range(25):
                values = mixed_values(count, seed)
                pairs = greedy_pairs(values, 12)
                for steps in range(13):
                    taken = pairs[:2 * steps]
                    answer = greedy_averaging(steps, values)
                    self.assertEqual(answer, apply_averages(values, taken))
                    self.assertEqual(answer[0], int(spread(values, taken)[1] == 0))


class PurityTest(Case):
    def test_what_is_handed_in_is_not_changed(self):
        values = FixedList([0, 4, 9])
        for steps in range(13):
            self.assertEqual(greedy_averaging(steps, values), greedy_averaging(steps, [0, 4, 9]))
        self.assertEqual(values, [0, 4, 9])

    def test_what_is_refused_is_not_changed(self):
        values = FixedList([0, 100])
        self.assertEqual(greedy_averaging(1, values), [-22])
        self.assertEqual(greedy_averaging(13, values), [-22])
        self.assertEqual(values, [0, 100])

    def test_a_second_call_answers_as_the_first(self):
        for steps, values in ((1, [0, 4, 8]), (2, [0, 4, 9]), (0, [1, 2]), (5, [7]), (13, [0, 4]), (1, [100])):
            first = greedy_averaging(steps, values)
            kept = list(first)
            self.assertEqual(greedy_averaging(13, [100]), [-22])
            self.assertEqual(greedy_averaging(1, [1, 2]), [1, 3, 2, 3, 2])
            first.append(7)
            first[0] = 5
            self.assertEqual(greedy_averaging(steps, values), kept)


if __name__ == "__main__":
    unittest.main()
