import itertools
import unittest

import helper
from leastsums.solutions import count_decompositions, minimal_solutions


class Ordinary(unittest.TestCase):
    def check_rows(self, rows):
        for coefficients, x, expected in rows:
            self.assertEqual(count_decompositions(coefficients, x), expected, (coefficients, x))

    def test_the_example(self):
        self.assertEqual(count_decompositions([2, -3, 1], [3, 3, 3]), [2])

    def test_rows_by_hand(self):
        self.check_rows([
            ([0], [7], [1]),
            ([1, -1], [5, 5], [1]),
            ([2, -3], [9, 6], [1]),
            ([2, -3, 1], [2, 2, 2], [1]),
            ([2, -3, 1], [6, 6, 6], [3]),
            ([2, -3, 1], [12, 12, 12], [5]),
            ([1, 1, -2], [3, 3, 3], [2]),
            ([1, 1, -2], [12, 12, 12], [7]),
            ([1, 1, -1, -1], [1, 1, 1, 1], [2]),
            ([1, 1, -1, -1], [2, 3, 1, 4], [2]),
        ])

    def test_a_minimal_solution_is_a_sum_in_one_way(self):
        lists = helper.all_coefficients(1) + helper.all_coefficients(2) + helper.some_of_four(211)
        for coefficients in lists + helper.all_coefficients(3)[::7]:
            for vector in helper.vectors_of(minimal_solutions(coefficients), len(coefficients)):
                self.assertEqual(count_decompositions(coefficients, vector), [1], (coefficients, vector))


class AgainstTheDefinition(unittest.TestCase):
    def answer_by_definition(self, minimal, solution):
        return [len(helper.decompositions_by_definition(minimal, solution))]

    def check(self, coefficients, values):
        for vector, expected in helper.expected_answers(coefficients, values, self.answer_by_definition):
            self.assertEqual(count_decompositions(coefficients, vector), expected, (coefficients, vector))

    def test_every_list_of_one(self):
        for coefficients in helper.all_coefficients(1):
            self.check(coefficients, range(13))

    def test_every_list_of_two(self):
        for coefficients in helper.all_coefficients(2):
            self.check(coefficients, (0, 1, 2, 3, 6, 10, 12))

    def test_many_lists_of_three(self):
        for coefficients in helper.all_coefficients(3)[::13]:
            self.check(coefficients, (0, 1, 2, 5, 8, 12))

    def test_many_lists_of_four(self):
        for coefficients in helper.some_of_four(331):
            self.check(coefficients, (0, 1, 4, 7))
        for coefficients in ([6, -6, 6, -6], [1, -1, 1, -1], [1, 2, -3, -4], [2, -3, 1, 0]):
            self.check(coefficients, (0, 3, 6, 12))


class Edges(unittest.TestCase):
    def check_rows(self, rows):
        for coefficients, x, expected in rows:
            self.assertEqual(count_decompositions(coefficients, x), expected, (coefficients, x))

    def test_the_zero_vector(self):
        for coefficients in helper.all_coefficients(1) + helper.all_coefficients(2) + helper.some_of_four(307):
            self.check_rows([(coefficients, [0] * len(coefficients), [1])])

    def test_no_minimal_solution(self):
        self.check_rows([
            ([-6], [0], [1]),
            ([-6], [12], [-33]),
            ([1, 2], [0, 0], [1]),
            ([1, 2], [0, 1], [-33]),
            ([6, 6, 6, 6], [0, 0, 0, 0], [1]),
            ([6, 6, 6, 6], [12, 12, 12, 12], [-33]),
        ])

    def test_all_coefficients_are_zero(self):
        for length in range(1, 5):
            for vector in itertools.product((0, 1, 12), repeat=length):
                self.check_rows([([0] * length, list(vector), [1])])

    def test_a_zero_among_others(self):
        self.check_rows([
            ([0, 5], [12, 0], [1]),
            ([0, 5], [12, 1], [-33]),
            ([1, 0, -1], [12, 7, 12], [1]),
            ([2, 0, -3, 1], [3, 12, 3, 3], [2]),
            ([2, -3, 1, 0], [12, 12, 12, 12], [5]),
        ])

    def test_the_outermost_coefficients_and_elements(self):
        self.check_rows([
            ([6, -6], [12, 12], [1]),
            ([6, -6], [12, 11], [-33]),
            ([6, -6], [0, 12], [-33]),
            ([6, -5], [10, 12], [1]),
            ([6, -6, 6, -6], [12, 12, 12, 12], [13]),
            ([1, -1, 1, -1], [12, 12, 12, 12], [13]),
            ([6, -6, 6, -6], [12, 12, 0, 0], [1]),
            ([6, -6, 6, -6], [12, 5, 0, 7], [1]),
            ([6, -6, 6, -6], [12, 7, 1, 6], [2]),
            ([6, -6, 0, 0], [12, 12, 12, 12], [1]),
        ])

    def test_many_minimal_solutions_and_many_decompositions(self):
        for coefficients, x in (
                ([-6, -6, 5, 5], [5, 5, 6, 6]), ([-6, -6, 5, 5], [10, 10, 12, 12]), ([-5, -5, 4, 6], [8, 6, 10, 5]),
                ([1, 1, 1, -3], [12, 12, 12, 12]), ([-6, 1, 1, 1], [6, 12, 12, 12]), ([-5, 1, 1, 1], [7, 11, 12, 12])):
            minimal = helper.minimal_by_definition(coefficients, 6)
            expected = len(helper.decompositions_by_definition(minimal, x))
            self.check_rows([(coefficients, x, [expected])])

    def test_counts_told_as_numbers(self):
        # So that a fault in the search by the definition shows, too.
        self.check_rows([
            ([-6, -6, 5, 5], [10, 10, 12, 12], [1525]),
            ([-6, 1, 1, 1], [6, 12, 12, 12], [9256]),
            ([-5, 1, 1, 1], [7, 11, 12, 12], [7884]),
        ])


class Requirements(unittest.TestCase):
    def test_each_solution_has_a_decomposition(self):
        for coefficients, solution in helper.many_solutions():
            answer = count_decompositions(coefficients, solution)
            self.assertEqual(len(answer), 1)
            self.assertGreaterEqual(answer[0], 1, (coefficients, solution))


class RefusalsAndInterface(helper.SolutionTests, unittest.TestCase):
    operation = staticmethod(count_decompositions)

    def test_the_arguments_are_called_as_told(self):
        self.assertEqual(count_decompositions(coefficients=[1, -1], x=[2, 2]), [1])


if __name__ == "__main__":
    unittest.main()
