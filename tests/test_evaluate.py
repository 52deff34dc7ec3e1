import itertools
import unittest

import helper
from leastsums.solutions import evaluate


class Ordinary(unittest.TestCase):
    def check_rows(self, rows):
        for coefficients, x, expected in rows:
            self.assertEqual(evaluate(coefficients, x), expected, (coefficients, x))

    def test_the_example(self):
        self.assertEqual(evaluate([2, -3, 1], [1, 0, 0]), [0, 2])

    def test_solutions(self):
        self.check_rows([
            ([0], [7], [1, 0]),
            ([1, -1], [5, 5], [1, 0]),
            ([2, -3, 1], [3, 3, 3], [1, 0]),
            ([2, -3, 1], [0, 1, 3], [1, 0]),
            ([6, -5, 4, -3], [1, 2, 1, 0], [1, 0]),
        ])

    def test_values_above_zero(self):
        self.check_rows([
            ([3], [4], [0, 12]),
            ([1, -1], [2, 1], [0, 1]),
            ([2, -3, 1], [5, 1, 2], [0, 9]),
            ([1, 2, 3, 4], [4, 3, 2, 1], [0, 20]),
        ])

    def test_values_below_zero(self):
        self.check_rows([
            ([-3], [4], [0, -12]),
            ([1, -1], [1, 2], [0, -1]),
            ([2, -3, 1], [0, 1, 0], [0, -3]),
            ([-2, 0, -1, 2], [11, 3, 1, 1], [0, -21]),
            ([-2, 1, 0, 0], [11, 0, 9, 9], [0, -22]),
        ])

    def test_the_zero_vector_is_a_solution(self):
        for coefficients in ([5], [-6, 6], [1, 2, 3], [0, 0, 0, 0], [-6, -6, -6, -6]):
            self.assertEqual(evaluate(coefficients, [0] * len(coefficients)), [1, 0])

    def test_against_the_definition(self):
        for length, step, elements in ((1, 1, range(13)), (2, 1, (0, 1, 5, 12)), (3, 5, (0, 2, 12)), (4, 61, (0, 3, 12))):
            for coefficients in helper.all_coefficients(length)[::step]:
                for vector in itertools.product(elements, repeat=length):
                    value = helper.linear_form(coefficients, vector)
                    self.assertEqual(evaluate(coefficients, list(vector)), [int(value == 0), value])


class Edges(unittest.TestCase):
    def test_the_outermost_coefficients_and_elements(self):
        rows = [
            ([6], [12], [0, 72]),
            ([-6], [12], [0, -72]),
            ([0], [12], [1, 0]),
            ([6], [0], [1, 0]),
            ([6, -6], [12, 12], [1, 0]),
            ([6, -6], [12, 0], [0, 72]),
            ([6, -6], [0, 12], [0, -72]),
            ([6, 6, 6, 6], [12, 12, 12, 12], [0, 288]),
            ([-6, -6, -6, -6], [12, 12, 12, 12], [0, -288]),
            ([0, 0, 0, 0], [12, 0, 12, 0], [1, 0]),
            ([6, 0, -6, 0], [12, 12, 11, 12], [0, 6]),
        ]
        for coefficients, x, expected in rows:
            self.assertEqual(evaluate(coefficients, x), expected, (coefficients, x))


class Refusals(helper.LimitsTests, unittest.TestCase):
    operation = staticmethod(evaluate)


class Interface(helper.InterfaceTests, unittest.TestCase):
    operation = staticmethod(evaluate)
    CALLS = [
        ([2, -3, 1], [1, 0, 0]), ([2, -3, 1], [3, 3, 3]), ([-6], [12]), ([0, 0, 0, 0], [0, 12, 1, 5]),
        ([], []), ([7], [1]), ([1, -1], [13, 13]), ([1, -1], [1]), ([1, 2, 3, 4, 5], [1, 1, 1, 1, 1]),
    ]

    def test_the_arguments_are_called_as_told(self):
        self.assertEqual(evaluate(coefficients=[1, -2], x=[1, 1]), [0, -1])


if __name__ == "__main__":
    unittest.main()
