import itertools
import unittest

from helper import (
    PAIRS_OUTSIDE_LIMITS,
    PLAN_FOR_EIGHT,
    PLAN_FOR_FOUR,
    PLANS,
    FixedList,
    assert_whole_numbers,
    mixed_pairs,
    mixed_values,
    reckon,
)
from meanpairs.averages import always_equalizes, apply_averages, influence


def split(pairs):
    return [pairs[k:k + 2] for k in range(0, len(pairs), 2)]


def joined(split_pairs):
    return sum(split_pairs, [])


def single_ones(count):
    """Every list of one 1 and zeros."""
    return [[int(place == index) for place in range(count)] for index in range(count)]


class Case(unittest.TestCase):
    def check(self, count, pairs, expected):
        answer = always_equalizes(count, list(pairs))
        assert_whole_numbers(self, answer)
        self.assertEqual(answer, expected, (count, pairs))

    def check_against_reckoning(self, count, pairs):
        equal = all(len(set(reckon(values, pairs))) == 1 for values in single_ones(count))
        self.check(count, pairs, [int(equal)])


class EqualizingTest(Case):
    def test_plan(self):
        for count, pairs in PLANS.items():
            self.check(count, pairs, [1])

    def test_parameters_bear_the_names_of_the_interface(self):
        self.assertEqual(always_equalizes(count=2, pairs=[0, 1]), [1])

    def test_plan_with_any_one_pair_turned_round(self):
        for count, pairs in PLANS.items():
            for place in range(len(pairs) // 2):
                turned = split(pairs)
                turned[place].reverse()
                self.check(count, joined(turned), [1])

    def test_plan_with_all_pairs_turned_round(self):
        for count, pairs in PLANS.items():
            self.check(count, joined([[j, i] for i, j in split(pairs)]), [1])

    def test_plan_with_further_pairs_behind_it(self):
        for count in (2, 4, 8):
            plan_length = len(PLANS[count]) // 2
            for further in range(1, 21 - plan_length):
                for seed in range(5):
                    self.check(count, PLANS[count] + mixed_pairs(count, further, seed), [1])

    def test_plan_with_further_pairs_ahead_of_it(self):
        for count in (2, 4, 8):
            for seed in range(5):
                self.check(count, mixed_pairs(count, 8, seed) + PLANS[count], [1])

    def test_plan_with_the_values_numbered_otherwise(self):
        for order in itertools.permutations(range(4)):
            self.check(4, [order[index] for index in PLAN_FOR_FOUR], [1])
        for shift in range(8):
            self.check(8, [(index * 3 + shift) % 8 for index in PLAN_FOR_EIGHT], [1])

    def test_plan_for_eight_with_its_stages_in_another_order(self):
        stages = [PLAN_FOR_EIGHT[:8], PLAN_FOR_EIGHT[8:16], PLAN_FOR_EIGHT[16:]]
        for order in itertools.permutations(stages):
            self.check(8, joined(list(order)), [1])


class NotEqualizingTest(Case):
    def test_no_pair(self):
        for count in range(2, 9):
            self.check(count, [], [0])

    def test_plan_with_one_pair_left_out(self):
        for count in (2, 4, 8):
            for place in range(len(PLANS[count]) // 2):
                rest = split(PLANS[count])
                rest.pop(place)
                self.check(count, joined(rest), [0])

    def test_plan_in_another_order(self):
        self.check(4, [0, 1, 0, 2, 2, 3, 1, 3], [0])
        self.check(4, [0, 2, 2, 3, 0, 1, 1, 3], [0])

    def test_plan_for_fewer_values(self):
        for fewer in (1, 2, 4):
            for count in range(fewer + 1, 9):
                self.check(count, PLANS[fewer], [0])

    def test_twenty_pairs_for_a_number_of_values_without_a_plan(self):
        for count in (3, 5, 6, 7):
            for seed in range(100):
                self.check(count, mixed_pairs(count, 20, seed), [0])
            chain = joined([[place % count, (place + 1) % count] for place in range(20)])
            self.check(count, chain, [0])

    def test_twenty_pairs_that_come_close(self):
        pairs = [0, 1, 1, 2] * 10
        afterwards = reckon([1, 0, 0], pairs)
        self.assertLess(max(afterwards) - min(afterwards), 2**-18)
        self.check(3, pairs, [0])

    def test_every_short_sequence_for_three_values(self):
        for length in range(7):
            for chosen in itertools.product(([0, 1], [0, 2], [1, 2]), repeat=length):
                self.check(3, joined(list(chosen)), [0])

    def test_some_places_equal_and_others_not(self):
        self.check(3, [0, 1], [0])
        self.check(3, [1, 2], [0])
        self.check(3, [0, 2], [0])
        self.check(4, [0, 1, 2, 3], [0])
        self.check(4, [0, 3, 1, 2], [0])
        self.check(4, [0, 1, 2, 3, 0, 2], [0])
        self.check(4, [0, 1, 2, 3, 1, 3], [0])
        self.check(8, PLAN_FOR_EIGHT[:16], [0])
        self.check(8, PLAN_FOR_EIGHT[:22], [0])

    def test_some_influences_equal_and_others_not(self):
        for order in itertools.permutations(range(4)):
            pairs = [order[index] for index in (0, 1, 0, 2, 1, 3)]
            for index in range(4):
                numbers = influence(4, index, pairs)[1:]
                self.assertEqual(numbers == [1, 4] * 4, index in order[:2])
            self.check(4, pairs, [0])

    def test_equal_for_some_values_but_not_whatever_they_are(self):
        for count in range(2, 9):
            with self.subTest(count=count):
                pairs = joined([[place, count - 1 - place] for place in range(count // 2)])
                self.assertEqual(apply_averages(list(range(count)), pairs)[0], 1)
                self.check(count, pairs, [int(count == 2)])


class ReckoningTest(Case):
    def test_every_sequence_of_up_to_four_pairs_for_four_values(self):
        steps = [list(pair) for pair in itertools.combinations(range(4), 2)]
        for length in range(5):
            for chosen in itertools.product(steps, repeat=length):
                self.check_against_reckoning(4, joined(list(chosen)))

    def test_long_sequences(self):
        for count in range(2, 9):
            for seed in range(30):
                self.check_against_reckoning(count, mixed_pairs(count, 20, seed))


class ApplyAveragesTest(Case):
    def test_answer_agrees_with_apply_averages(self):
        answers = []
        for count in range(1, 9):
            for seed in range(40):
                pairs = mixed_pairs(count, seed % 21, seed) if count > 1 else []
                answers.append(self.check_with_values(count, pairs))
            if count in PLANS:
                answers.append(self.check_with_values(count, PLANS[count]))
        self.assertEqual(set(answers), {0, 1})

    def check_with_values(self, count, pairs):
        answer = always_equalizes(count, pairs)[0]
        tried = single_ones(count) + [mixed_values(count, seed) for seed in range(25)] + [[0] * count, [99] * count]
        equalities = [apply_averages(values, pairs)[0] for values in tried]
        with self.subTest(count=count, pairs=pairs):
            if answer == 1:
                self.assertEqual(set(equalities), {1})
            else:
                self.assertEqual(answer, 0)
                self.assertIn(0, equalities)
        return answer


class EdgeTest(Case):
    def test_one_value_without_a_pair(self):
        self.check(1, [], [1])

    def test_eight_values_with_the_last_index(self):
        self.check(8, PLAN_FOR_EIGHT, [1])
        self.check(8, [7, 0], [0])

    def test_twenty_pairs(self):
        self.check(2, [0, 1] * 20, [1])
        self.check(3, [0, 1] * 20, [0])
        self.check(8, [0, 1] * 8 + PLAN_FOR_EIGHT, [1])
        self.check(8, [0, 1] * 9 + PLAN_FOR_EIGHT[:22], [0])
        self.check(8, PLAN_FOR_EIGHT + [0, 7] * 8, [1])


class RefusalTest(Case):
    def test_count_outside_its_limits(self):
        for count in (0, 9, 10, 16, 4294967295):
            self.check(count, [], [-22])
            self.check(count, [0, 1], [-22])

    def test_pairs_outside_their_limits(self):
        for name, pairs in PAIRS_OUTSIDE_LIMITS.items():
            for count in (2, 3, 8):
                with self.subTest(name, count=count):
                    self.check(count, pairs, [-22])

    def test_plan_with_wrong_pairs_behind_it(self):
        for wrong in ([0], [0, 0], [0, 8], [8, 0], [0, 4294967295], [0, 1] * 9):
            self.check(8, PLAN_FOR_EIGHT + wrong, [-22])

    def test_plan_for_more_values(self):
        self.check(1, [0, 1], [-22])
        for count in (2, 3):
            self.check(count, PLAN_FOR_FOUR, [-22])
        for count in (4, 5, 6, 7):
            self.check(count, PLAN_FOR_EIGHT, [-22])

    def test_first_index_that_does_not_exist(self):
        for count in range(2, 9):
            self.check(count, [0, count], [-22])
            self.check(count, [count, 0], [-22])
            self.check(count, [0, count - 1], [int(count == 2)])

    def test_one_value_has_no_pair(self):
        self.check(1, [0, 0], [-22])
        self.check(1, [0], [-22])

    def test_count_and_pairs_outside_their_limits(self):
        for count in (0, 9, 4294967295):
            for pairs in PAIRS_OUTSIDE_LIMITS.values():
                self.check(count, pairs, [-22])


class PurityTest(Case):
    def test_what_is_handed_in_is_not_changed(self):
        for count, expected in ((4, [1]), (5, [0])):
            pairs = FixedList(PLAN_FOR_FOUR)
            self.assertEqual(always_equalizes(count, pairs), expected)
            self.assertEqual(pairs, PLAN_FOR_FOUR)

    def test_what_is_refused_is_not_changed(self):
        pairs = FixedList([0, 1, 1])
        self.assertEqual(always_equalizes(2, pairs), [-22])
        self.assertEqual(always_equalizes(9, pairs), [-22])
        self.assertEqual(pairs, [0, 1, 1])

    def test_a_second_call_answers_as_the_first(self):
        for count, pairs, expected in ((4, PLAN_FOR_FOUR, [1]), (4, [0, 1], [0]), (0, [], [-22])):
            first = always_equalizes(count, pairs)
            self.assertEqual(first, expected)
            self.assertEqual(always_equalizes(2, [0, 0]), [-22])
            self.assertEqual(always_equalizes(2, [0, 1]), [1])
            self.assertEqual(always_equalizes(2, []), [0])
            first.append(7)
            self.assertEqual(always_equalizes(count, pairs), expected)


if __name__ == "__main__":
    unittest.main()
