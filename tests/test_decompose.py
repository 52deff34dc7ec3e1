import unittest

import helper
from leastsums.solutions import decompose, minimal_solutions


class Ordinary(unittest.TestCase):
    def check_rows(self, rows):
        for coefficients, x, expected in rows:
            self.assertEqual(decompose(coefficients, x), expected, (coefficients, x))

    def test_the_examples(self):
        self.assertEqual(decompose([2, -3, 1], [3, 3, 3]), [2, 1, 0, 1])
        self.assertEqual(decompose([2, -3, 1], [1, 0, 0]), [-33])

    def test_rows_by_hand(self):
        self.check_rows([
            ([0], [7], [7, 7]),
            ([1, -1], [5, 5], [5, 5]),
            ([2, -3], [9, 6], [3, 3]),
            ([2, -3, 1], [1, 1, 1], [1, 0, 1, 0]),
            ([2, -3, 1], [4, 4, 4], [3, 1, 1, 1]),
            ([1, 1, -2], [3, 5, 4], [4, 2, 1, 1]),
            ([1, 1, -1, -1], [2, 1, 2, 1], [3, 1, 0, 0, 2]),
            ([1, 1, -1, -1], [2, 3, 1, 4], [5, 3, 0, 1, 1]),
        ])


class AgainstTheDefinition(unittest.TestCase):
    def answer_by_definition(self, minimal, solution):
        multiplicities = helper.greedy_by_definition(minimal, solution)
        return [sum(multiplicities)] + multiplicities

    def check(self, coefficients, values):
        for vector, expected in helper.expected_answers(coefficients, values, self.answer_by_definition):
            self.assertEqual(decompose(coefficients, vector), expected, (coefficients, vector))

    def test_every_list_of_one(self):
        for coefficients in helper.all_coefficients(1):
            self.check(coefficients, range(13))

    def test_every_list_of_two(self):
        for coefficients in helper.all_coefficients(2):
            self.check(coefficients, range(13))

    def test_many_lists_of_three(self):
        for coefficients in helper.all_coefficients(3)[::13]:
            self.check(coefficients, (0, 1, 2, 3, 5, 8, 11, 12))

    def test_many_lists_of_four(self):
        for coefficients in helper.some_of_four(331):
            self.check(coefficients, (0, 1, 4, 6, 12))

    def test_lists_of_four_with_many_minimal_solutions(self):
        for coefficients in ([-6, -6, 5, 5], [6, -5, 6, -5], [1, 1, -6, -5], [4, -3, -2, 5]):
            self.check(coefficients, (0, 5, 7, 10, 12))


class Edges(unittest.TestCase):
    def check_rows(self, rows):
        for coefficients, x, expected in rows:
            self.assertEqual(decompose(coefficients, x), expected, (coefficients, x))

    def test_the_zero_vector(self):
        self.check_rows([
            ([5], [0], [0]),
            ([0], [0], [0, 0]),
            ([1, -1], [0, 0], [0, 0]),
            ([2, -3, 1], [0, 0, 0], [0, 0, 0, 0]),
            ([0, 0, 0, 0], [0, 0, 0, 0], [0, 0, 0, 0, 0]),
            ([6, -6, 6, -6], [0, 0, 0, 0], [0, 0, 0, 0, 0]),
        ])

    def test_no_minimal_solution(self):
        self.check_rows([
            ([-6], [0], [0]),
            ([-6], [12], [-33]),
            ([1, 2], [0, 0], [0]),
            ([1, 2], [0, 1], [-33]),
            ([-1, -2, -3], [0, 0, 0], [0]),
            ([6, 6, 6, 6], [0, 0, 0, 0], [0]),
            ([6, 6, 6, 6], [12, 12, 12, 12], [-33]),
        ])

    def test_all_coefficients_are_zero(self):
        self.check_rows([
            ([0], [12], [12, 12]),
            ([0, 0], [12, 0], [12, 0, 12]),
            ([0, 0, 0], [1, 2, 3], [6, 3, 2, 1]),
            ([0, 0, 0, 0], [12, 0, 12, 5], [29, 5, 12, 0, 12]),
            ([0, 0, 0, 0], [12, 12, 12, 12], [48, 12, 12, 12, 12]),
        ])

    def test_a_zero_among_others(self):
        self.check_rows([
            ([0, 5], [12, 0], [12, 12]),
            ([0, 5], [12, 1], [-33]),
            ([-6, 0], [0, 3], [3, 3]),
            ([1, 0, -1], [12, 7, 12], [19, 7, 12]),
            ([2, 0, -3, 1], [3, 4, 3, 3], [6, 1, 4, 0, 1]),
        ])

    def test_the_outermost_coefficients_and_elements(self):
        self.check_rows([
            ([6, -6], [12, 12], [12, 12]),
            ([6, -6], [12, 11], [-33]),
            ([6, -6], [0, 12], [-33]),
            ([6, -5], [10, 12], [2, 2]),
            ([-1, 6], [12, 2], [2, 2]),
            ([6, -6, 6, -6], [12, 12, 12, 12], [24, 12, 0, 0, 12]),
            ([6, -6, 6, -6], [12, 0, 0, 12], [12, 0, 0, 12, 0]),
            ([6, -6, 6, -6], [12, 5, 0, 7], [12, 0, 0, 7, 5]),
        ])


class Requirements(unittest.TestCase):
    def test_a_solution_is_the_sum_of_its_decomposition(self):
        for coefficients, solution in helper.many_solutions():
            length = len(coefficients)
            answer = decompose(coefficients, solution)
            self.assertEqual(answer[0], sum(answer[1:]), (coefficients, solution))
            self.assertTrue(all(times >= 0 for times in answer), (coefficients, solution))
            minimal = helper.vectors_of(minimal_solutions(coefficients), length)
            total = helper.sum_of_multiples(answer[1:], minimal, length)
            self.assertEqual(total, solution, coefficients)


class RefusalsAndInterface(helper.SolutionTests, unittest.TestCase):
    operation = staticmethod(decompose)

    def test_the_arguments_are_called_as_told(self):
        self.assertEqual(decompose(coefficients=[1, -1], x=[2, 2]), [2, 2])


if __name__ == "__main__":
    unittest.main()
