import unittest

from helper import PLANS, assert_whole_numbers, fractions_of, mixed_values
from meanpairs.averages import always_equalizes, apply_averages, plan


class Case(unittest.TestCase):
    def check(self, count, expected):
        answer = plan(count)
        assert_whole_numbers(self, answer)
        self.assertEqual(answer, expected, count)


class OrdinaryTest(Case):
    def test_example_of_the_document(self):
        self.check(4, [4, 0, 1, 2, 3, 0, 2, 1, 3])

    def test_parameter_bears_the_name_of_the_interface(self):
        self.assertEqual(plan(count=2), [1, 0, 1])

    def test_one_value_needs_no_pair(self):
        self.check(1, [0])

    def test_two_values(self):
        self.check(2, [1, 0, 1])

    def test_eight_values(self):
        self.check(8, [12,
                       0, 1, 2, 3, 4, 5, 6, 7,
                       0, 2, 1, 3, 4, 6, 5, 7,
                       0, 4, 1, 5, 2, 6, 3, 7])

    def test_every_plan_that_the_tests_share(self):
        for count, pairs in PLANS.items():
            self.check(count, [len(pairs) // 2] + pairs)


class RefusalTest(Case):
    def test_example_of_the_document(self):
        self.check(3, [-33])

    def test_number_of_values_without_a_plan(self):
        for count in (3, 5, 6, 7):
            self.check(count, [-33])

    def test_count_outside_its_limits(self):
        for count in (0, 9, 10, 11, 12, 15, 16, 32, 64, 2147483648, 4294967295):
            self.check(count, [-22])


class EqualizingTest(Case):
    def test_plan_always_equalizes(self):
        for count in (1, 2, 4, 8):
            self.assertEqual(always_equalizes(count, plan(count)[1:]), [1], count)

    def test_plan_makes_values_equal_and_keeps_their_sum(self):
        for count in (1, 2, 4, 8):
            pairs = plan(count)[1:]
            for values in self.initial_values(count):
                answer = apply_averages(values, pairs)
                averaged = fractions_of(answer[1:])
                with self.subTest(values=values):
                    self.assertEqual(answer[0], 1)
                    self.assertEqual(len(averaged), count)
                    self.assertEqual(len(set(averaged)), 1)
                    self.assertEqual(sum(averaged), sum(values))
                    self.assertLessEqual(min(values), averaged[0])
                    self.assertLessEqual(averaged[0], max(values))

    def initial_values(self, count):
        single_values = [[99 * (place == index) for place in range(count)] for index in range(count)]
        return single_values + [mixed_values(count, seed) for seed in range(50)] + [[0] * count, [99] * count]


class PurityTest(Case):
    def test_a_second_call_answers_as_the_first(self):
        for count in range(10):
            kept = list(plan(count))
            for other in range(10):
                plan(other)
            self.check(count, kept)

    def test_a_changed_answer_does_not_come_back(self):
        for count in range(10):
            first = plan(count)
            kept = list(first)
            first.append(7)
            first[0] = 5
            self.check(count, kept)
            plan(count).clear()
            self.check(count, kept)


if __name__ == "__main__":
    unittest.main()
