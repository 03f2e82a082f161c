import itertools
import math
import unittest
from fractions import Fraction

from helper import (
    PAIRS_OUTSIDE_LIMITS,
    PLAN_FOR_EIGHT,
    PLAN_FOR_FOUR,
    PLANS,
    VALUES_OUTSIDE_LIMITS,
    FixedList,
    assert_whole_numbers,
    flat,
    fractions_of,
    mixed_pairs,
    mixed_values,
    reckon,
)
from meanpairs.averages import apply_averages, spread


def answer_for(averaged):
    """The answer for the values that stand after the averages, as fractions."""
    return [0] + flat([Fraction(max(averaged) - min(averaged)), Fraction(sum(value * value for value in averaged))])


class Case(unittest.TestCase):
    def check(self, values, pairs, expected):
        answer = spread(list(values), list(pairs))
        assert_whole_numbers(self, answer)
        self.assertEqual(answer, expected, (values, pairs))

    def check_against_reckoning(self, values, pairs):
        self.check(values, pairs, answer_for(reckon(values, pairs)))


class OrdinaryTest(Case):
    def test_example_of_the_document(self):
        self.check([0, 4, 8], [0, 1], [0, 6, 1, 72, 1])

    def test_parameters_bear_the_names_of_the_interface(self):
        self.assertEqual(spread(values=[0, 4, 8], pairs=[0, 1]), [0, 6, 1, 72, 1])

    def test_values_come_out_equal(self):
        self.check([0, 4], [0, 1], [0, 0, 1, 8, 1])
        self.check([0, 1], [0, 1], [0, 0, 1, 1, 2])
        self.check([0, 4, 8], [0, 2], [0, 0, 1, 48, 1])
        self.check([1, 2, 3, 6], PLAN_FOR_FOUR, [0, 0, 1, 36, 1])
        self.check([7, 0, 1, 2, 3, 4, 5, 6], PLAN_FOR_EIGHT, [0, 0, 1, 98, 1])
        self.check([5, 5, 5], [], [0, 0, 1, 75, 1])

    def test_values_come_out_unequal(self):
        self.check([0, 4, 8], [1, 2], [0, 6, 1, 72, 1])
        self.check([0, 1, 0], [0, 1, 1, 2], [0, 1, 4, 3, 8])
        self.check([3, 5, 9], [0, 1], [0, 5, 1, 113, 1])
        self.check([0, 0, 0, 99], [0, 1, 2, 3], [0, 99, 2, 9801, 2])

    def test_pairs_are_averaged_in_their_order(self):
        self.check([0, 4, 8], [0, 1, 1, 2], [0, 3, 1, 54, 1])
        self.check([0, 4, 9], [0, 1, 1, 2], [0, 7, 2, 129, 2])
        self.check([0, 4, 9], [1, 2, 0, 1], [0, 13, 4, 507, 8])

    def test_greater_index_first(self):
        self.check([0, 4, 8], [1, 0], [0, 6, 1, 72, 1])
        self.check([0, 4, 8], [2, 0], [0, 0, 1, 48, 1])
        self.check([0, 4, 9], [2, 1, 1, 0], [0, 13, 4, 507, 8])

    def test_largest_and_smallest_value_in_every_order(self):
        for values in itertools.permutations([3, 10, 40, 98]):
            self.check(values, [], [0, 95, 1, 11313, 1])

    def test_several_largest_or_smallest_values(self):
        for values in itertools.permutations([2, 2, 7, 9]):
            self.check(values, [], [0, 7, 1, 138, 1])
        for values in itertools.permutations([2, 4, 9, 9]):
            self.check(values, [], [0, 7, 1, 182, 1])
        for values in itertools.permutations([2, 2, 9, 9]):
            self.check(values, [], [0, 7, 1, 170, 1])

    def test_one_value_alone_is_the_largest_or_the_smallest_wherever_it_is(self):
        for count in range(2, 9):
            for place in range(count):
                values = [50] * count
                values[place] = 52
                self.check(values, [], [0, 2, 1, 2500 * (count - 1) + 2704, 1])
                values[place] = 47
                self.check(values, [], [0, 3, 1, 2500 * (count - 1) + 2209, 1])

    def test_every_short_sequence(self):
        pairs_of_three = [[i, j] for i, j in itertools.permutations(range(3), 2)]
        for values in ([0, 4, 8], [1, 0, 99], [7, 7, 2]):
            for length in range(4):
                for chosen in itertools.product(pairs_of_three, repeat=length):
                    self.check_against_reckoning(values, sum(chosen, []))

    def test_long_sequences(self):
        for count in range(2, 9):
            for seed in range(40):
                self.check_against_reckoning(mixed_values(count, seed), mixed_pairs(count, 20, seed))


class RationalTest(Case):
    def test_different_denominators_in_every_order(self):
        # The values afterwards are 7/1, 13/8, 13/8, 7/4 and 4/1: going by the numerators alone would mislead.
        pairs = [1, 2, 2, 3, 1, 2]
        for order in itertools.permutations(range(5)):
            values = [0] * 5
            for place, value in zip(order, [7, 1, 2, 2, 4], strict=True):
                values[place] = value
            self.check(values, [order[index] for index in pairs], [0, 43, 8, 2347, 32])

    def test_lowest_terms(self):
        self.check([1, 2], [0, 1], [0, 0, 1, 9, 2])
        self.check([1, 2, 2, 3], [0, 1, 2, 3], [0, 1, 1, 17, 1])
        self.check([1, 0, 2, 1], [0, 1, 2, 3, 0, 2], [0, 1, 1, 9, 2])

    def test_zero_is_zero_over_one(self):
        self.check([0, 0], [0, 1], [0, 0, 1, 0, 1])
        self.check([0] * 8, PLAN_FOR_EIGHT, [0, 0, 1, 0, 1])
        self.check([1, 2], [0, 1, 1, 0], [0, 0, 1, 9, 2])

    def test_every_denominator_is_positive_and_prime_to_its_numerator(self):
        for count in range(2, 9):
            for seed in range(30):
                answer = spread(mixed_values(count, seed), mixed_pairs(count, seed % 21, seed))
                self.assertEqual(len(answer), 5)
                self.assertEqual(answer[0], 0)
                for numerator, denominator in (answer[1:3], answer[3:5]):
                    self.assertGreaterEqual(numerator, 0)
                    self.assertGreaterEqual(denominator, 1)
                    self.assertEqual(math.gcd(numerator, denominator), 1)


class ApplyAveragesTest(Case):
    def test_answer_is_that_of_the_values_that_apply_averages_answers(self):
        for count in range(1, 9):
            for seed in range(40):
                values = mixed_values(count, seed)
                pairs = mixed_pairs(count, seed % 21, seed) if count > 1 else []
                self.check_against_apply_averages(values, pairs)
            if count in PLANS:
                self.check_against_apply_averages(mixed_values(count, 3), PLANS[count])

    def check_against_apply_averages(self, values, pairs):
        answer = apply_averages(values, pairs)
        self.check(values, pairs, answer_for(fractions_of(answer[1:])))
        self.assertEqual(spread(values, pairs)[1] == 0, answer[0] == 1)


class EdgeTest(Case):
    def test_one_value(self):
        self.check([0], [], [0, 0, 1, 0, 1])
        self.check([5], [], [0, 0, 1, 25, 1])
        self.check([99], [], [0, 0, 1, 9801, 1])

    def test_eight_values(self):
        self.check([0, 1, 2, 3, 4, 5, 6, 7], [], [0, 7, 1, 140, 1])
        self.check([0, 99, 1, 98, 2, 97, 3, 96], [], [0, 99, 1, 38044, 1])
        self.check([1, 2, 3, 4, 5, 6, 7, 99], [7, 0], [0, 48, 1, 5139, 1])

    def test_all_values_0(self):
        for count in range(1, 9):
            self.check([0] * count, [0, count - 1] * (count > 1), [0, 0, 1, 0, 1])

    def test_all_values_99(self):
        for count in range(1, 9):
            self.check([99] * count, [0, count - 1] * (count > 1), [0, 0, 1, 9801 * count, 1])

    def test_smallest_and_largest_value(self):
        self.check([0, 99], [], [0, 99, 1, 9801, 1])
        self.check([99, 0], [], [0, 99, 1, 9801, 1])
        self.check([0, 99], [0, 1], [0, 0, 1, 9801, 2])

    def test_no_pair(self):
        self.check([3, 5], [], [0, 2, 1, 34, 1])

    def test_twenty_pairs_with_large_denominators(self):
        self.check([1, 2], [0, 1] * 20, [0, 0, 1, 9, 2])
        pairs = [0, 1, 1, 2] * 10
        for values in ([99, 0, 0], [0, 99, 98], [0, 0, 1]):
            afterwards = reckon(values, pairs)
            self.assertGreaterEqual(max(value.denominator for value in afterwards), 2**19)
            self.check_against_reckoning(values, pairs)
        self.check([99, 0, 0], pairs, [0, 99, 2**20, *flat([sum(value**2 for value in reckon([99, 0, 0], pairs))])])


class SquaresTest(Case):
    def test_averaging_two_different_values_reduces_the_sum_of_the_squares(self):
        compared = {True: 0, False: 0}
        for count in range(2, 9):
            for seed in range(30):
                values = mixed_values(count, seed)
                pairs = mixed_pairs(count, seed % 20, seed)
                averaged = fractions_of(apply_averages(values, pairs)[1:])
                before = Fraction(*spread(values, pairs)[3:])
                for i, j in itertools.permutations(range(count), 2):
                    behind = Fraction(*spread(values, pairs + [i, j])[3:])
                    equal = averaged[i] == averaged[j]
                    compared[equal] += 1
                    self.check_squares(equal, before, behind)
        self.assertGreater(min(compared.values()), 100)

    def check_squares(self, equal, before, behind):
        if equal:
            self.assertEqual(behind, before)
        else:
            self.assertLess(behind, before)

    def test_averaging_two_equal_values_leaves_the_sum_of_the_squares(self):
        self.check([4, 4, 9], [0, 1], [0, 5, 1, 113, 1])
        self.check([1, 2, 9], [0, 1], [0, 15, 2, 171, 2])
        self.check([1, 2, 9], [0, 1, 1, 0], [0, 15, 2, 171, 2])


class ConservationTest(Case):
    def test_spread_never_grows(self):
        for count in range(2, 9):
            for seed in range(10):
                values = mixed_values(count, seed)
                pairs = mixed_pairs(count, 20, seed)
                spreads = [Fraction(*spread(values, pairs[:length])[1:3]) for length in range(0, 41, 2)]
                self.assertEqual(spreads[0], max(values) - min(values))
                self.assertEqual(spreads, sorted(spreads, reverse=True))


class RefusalTest(Case):
    def test_values_outside_their_limits(self):
        for name, values in VALUES_OUTSIDE_LIMITS.items():
            with self.subTest(name):
                self.check(values, [], [-22])
                self.check(values, [0, 1], [-22])

    def test_pairs_outside_their_limits(self):
        for name, pairs in PAIRS_OUTSIDE_LIMITS.items():
            for count in (2, 3, 8):
                with self.subTest(name, count=count):
                    self.check([1] * count, pairs, [-22])

    def test_first_index_that_does_not_exist(self):
        for count in range(2, 9):
            self.check([1] * count, [0, count], [-22])
            self.check([1] * count, [count, 0], [-22])
            self.check([1] * count, [0, count - 1], [0, 0, 1, count, 1])

    def test_one_value_has_no_pair(self):
        self.check([5], [0, 1], [-22])
        self.check([5], [0, 0], [-22])
        self.check([5], [0], [-22])

    def test_values_and_pairs_outside_their_limits(self):
        for values in VALUES_OUTSIDE_LIMITS.values():
            for pairs in PAIRS_OUTSIDE_LIMITS.values():
                self.check(values, pairs, [-22])


class PurityTest(Case):
    def test_what_is_handed_in_is_not_changed(self):
        values = FixedList([0, 4, 8])
        pairs = FixedList([0, 1, 2, 1])
        self.assertEqual(spread(values, pairs), [0, 3, 1, 54, 1])
        self.assertEqual(values, [0, 4, 8])
        self.assertEqual(pairs, [0, 1, 2, 1])

    def test_what_is_refused_is_not_changed(self):
        values = FixedList([0, 100])
        pairs = FixedList([0, 1, 1])
        self.assertEqual(spread(values, pairs), [-22])
        self.assertEqual(spread(FixedList([0, 1]), pairs), [-22])
        self.assertEqual(values, [0, 100])
        self.assertEqual(pairs, [0, 1, 1])

    def test_a_second_call_answers_as_the_first(self):
        for values, pairs in (([0, 4, 8], [0, 1]), ([5], []), ([100], []), ([1, 2], [0, 0])):
            first = spread(values, pairs)
            kept = list(first)
            self.assertEqual(spread([100], []), [-22])
            self.assertEqual(spread([1, 2], [0, 1]), [0, 0, 1, 9, 2])
            first.append(7)
            first[0] = 5
            self.assertEqual(spread(values, pairs), kept)


if __name__ == "__main__":
    unittest.main()
