"""What the document asks of the whole program: each requirement at every operation that it speaks of."""

import unittest
from fractions import Fraction

from helper import (
    PAIRS_OUTSIDE_LIMITS,
    PLANS,
    VALUES_OUTSIDE_LIMITS,
    fractions_of,
    greedy_pairs,
    mixed_pairs,
    mixed_values,
)
from meanpairs.averages import always_equalizes, apply_averages, greedy_averaging, influence, plan, spread

COUNTS_WITHOUT_PLAN = (3, 5, 6, 7)


def cases():
    """Values with a sequence of averages each, for every number of values and up to 20 pairs."""
    chosen = []
    for count in range(1, 9):
        for seed in range(22):
            pairs = mixed_pairs(count, seed % 21, seed) if count > 1 else []
            chosen.append((mixed_values(count, seed), pairs))
        if count in PLANS:
            chosen.append((mixed_values(count, 5), PLANS[count]))
    return chosen


def averaged_values(values, pairs):
    return fractions_of(apply_averages(values, pairs)[1:])


def greedy_values(steps, values):
    return fractions_of(greedy_averaging(steps, values)[1:])


def influences(count, pairs):
    return [fractions_of(influence(count, index, pairs)[1:]) for index in range(count)]


def spread_and_squares(values, pairs):
    return fractions_of(spread(values, pairs)[1:])


def squares_of(fractions):
    return sum(value * value for value in fractions)


def combined(values, parts):
    """At each place the sum over all initial values, each times its influence there."""
    return [sum(value * part[place] for value, part in zip(values, parts)) for place in range(len(values))]


class ExamplesTest(unittest.TestCase):
    def test_examples_of_the_document(self):
        self.assertEqual(apply_averages([0, 4], [0, 1]), [1, 2, 1, 2, 1])
        self.assertEqual(plan(4), [4, 0, 1, 2, 3, 0, 2, 1, 3])
        self.assertEqual(spread([0, 4, 8], [0, 1]), [0, 6, 1, 72, 1])
        self.assertEqual(greedy_averaging(1, [0, 4, 8]), [1, 4, 1, 4, 1, 4, 1])
        self.assertEqual(plan(3), [-33])


class PlanTest(unittest.TestCase):
    def test_plan_always_equalizes(self):
        for count in PLANS:
            pair_count, *pairs = plan(count)
            self.assertEqual(len(pairs), 2 * pair_count)
            self.assertEqual(always_equalizes(count, pairs), [1])
            self.assertEqual(influences(count, pairs), [[Fraction(1, count)] * count] * count)
            for seed in range(20):
                values = mixed_values(count, seed)
                self.assertEqual(averaged_values(values, pairs), [Fraction(sum(values), count)] * count)
                self.assertEqual(spread_and_squares(values, pairs), [0, Fraction(sum(values) ** 2, count)])

    def test_no_sequence_does_for_other_numbers_of_values(self):
        # Equal influences would all be 1 divided by the number of values, whose denominator is no power of two.
        for count in COUNTS_WITHOUT_PLAN:
            self.assertEqual(plan(count), [-33])
            for seed in range(30):
                pairs = mixed_pairs(count, seed % 21, seed)
                self.assertEqual(always_equalizes(count, pairs), [0])
                for part in influences(count, pairs):
                    for value in part:
                        self.assertEqual(2**20 % value.denominator, 0)

    def test_greedy_averages_are_no_sequence_for_other_numbers_of_values(self):
        for count in COUNTS_WITHOUT_PLAN:
            for seed in range(10):
                self.assertEqual(always_equalizes(count, greedy_pairs(mixed_values(count, seed), 12)), [0])


class ConservationTest(unittest.TestCase):
    def check(self, initial, averaged):
        self.assertEqual(len(averaged), len(initial))
        self.assertEqual(sum(averaged), sum(initial))
        self.assertGreaterEqual(min(averaged), min(initial))
        self.assertLessEqual(max(averaged), max(initial))

    def test_apply_averages(self):
        for values, pairs in cases():
            self.check(values, averaged_values(values, pairs))

    def test_influence(self):
        for values, pairs in cases():
            for index, part in enumerate(influences(len(values), pairs)):
                self.check([int(place == index) for place in range(len(values))], part)

    def test_spread(self):
        for values, pairs in cases():
            difference, squares = spread_and_squares(values, pairs)
            self.assertLessEqual(0, difference)
            self.assertLessEqual(difference, max(values) - min(values))
            # With a sum that stays, the squares are smallest where all values are equal.
            self.assertGreaterEqual(squares, Fraction(sum(values) ** 2, len(values)))
            self.assertLessEqual(squares, squares_of(values))

    def test_greedy_averaging(self):
        for values, _ in cases():
            for steps in range(13):
                self.check(values, greedy_values(steps, values))


class SquaresTest(unittest.TestCase):
    def check(self, states, pairs):
        """That the squares become less at each pair of two different values, and stay at the others."""
        for place, (before, behind) in enumerate(zip(states, states[1:])):
            i, j = pairs[2 * place:2 * place + 2]
            if before[i] == before[j]:
                self.assertEqual(squares_of(behind), squares_of(before))
            else:
                self.assertLess(squares_of(behind), squares_of(before))

    def test_apply_averages_and_spread(self):
        for values, pairs in cases():
            lengths = range(0, len(pairs) + 1, 2)
            states = [averaged_values(values, pairs[:length]) for length in lengths]
            self.check(states, pairs)
            for length, state in zip(lengths, states):
                expected = [max(state) - min(state), squares_of(state)]
                self.assertEqual(spread_and_squares(values, pairs[:length]), expected)

    def test_influence(self):
        for values, pairs in cases():
            count = len(values)
            for index in range(count):
                lengths = range(0, len(pairs) + 1, 2)
                self.check([fractions_of(influence(count, index, pairs[:length])[1:]) for length in lengths], pairs)

    def test_greedy_averaging(self):
        for values, _ in cases():
            pairs = greedy_pairs(values, 12)
            self.check([greedy_values(steps, values) for steps in range(len(pairs) // 2 + 1)], pairs)


class LinearityTest(unittest.TestCase):
    def test_apply_averages(self):
        for values, pairs in cases():
            self.assertEqual(averaged_values(values, pairs), combined(values, influences(len(values), pairs)))

    def test_always_equalizes(self):
        answers = []
        for values, pairs in cases():
            equal = all(len(set(part)) == 1 for part in influences(len(values), pairs))
            answers.append(always_equalizes(len(values), pairs))
            self.assertEqual(answers[-1], [int(equal)])
        self.assertIn([0], answers)
        self.assertIn([1], answers)

    def test_spread(self):
        for values, pairs in cases():
            averaged = combined(values, influences(len(values), pairs))
            self.assertEqual(spread_and_squares(values, pairs), [max(averaged) - min(averaged), squares_of(averaged)])

    def test_greedy_averaging(self):
        for values, _ in cases():
            for steps in range(13):
                parts = influences(len(values), greedy_pairs(values, steps))
                self.assertEqual(greedy_values(steps, values), combined(values, parts))


class RefusalTest(unittest.TestCase):
    def test_refusals_leave_what_is_answered_next_as_it_was(self):
        expected = self.answers()
        for values in VALUES_OUTSIDE_LIMITS.values():
            self.assertEqual(greedy_averaging(1, values), [-22])
            for pairs in PAIRS_OUTSIDE_LIMITS.values():
                self.assertEqual(apply_averages(values, pairs), [-22])
                self.assertEqual(spread(values, pairs), [-22])
        for pairs in PAIRS_OUTSIDE_LIMITS.values():
            self.assertEqual(influence(2, 0, pairs), [-22])
            self.assertEqual(always_equalizes(2, pairs), [-22])
        self.assertEqual(plan(9), [-22])
        self.assertEqual(self.answers(), expected)

    def answers(self):
        return [apply_averages([0, 4], [0, 1]), influence(2, 0, [0, 1]), always_equalizes(2, [0, 1]), plan(4),
                spread([0, 4, 8], [0, 1]), greedy_averaging(1, [0, 4, 8])]


if __name__ == "__main__":
    unittest.main()
