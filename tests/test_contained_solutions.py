import itertools
import unittest

import helper
from leastsums.solutions import contained_solutions, minimal_solutions


class RowTests(unittest.TestCase):
    def check_rows(self, rows):
        for coefficients, x, expected in rows:
            self.assertEqual(contained_solutions(coefficients, x), expected, (coefficients, x))


class Ordinary(RowTests):
    def test_rows_by_hand_where_x_is_a_solution(self):
        # The minimal solutions of 2 -3 1 are 0 1 3, 1 1 1 and 3 2 0.
        self.check_rows([
            ([0], [7], [1, 0]),
            ([1, -1], [5, 5], [1, 0]),
            ([2, -3, 1], [3, 3, 3], [3, 0, 1, 2]),
            ([2, -3, 1], [2, 2, 2], [1, 1]),
            ([2, -3, 1], [0, 2, 6], [1, 0]),
            ([2, -3, 1], [4, 3, 1], [2, 1, 2]),
            ([1, 1, -1, -1], [1, 1, 1, 1], [4, 0, 1, 2, 3]),
            ([1, 1, -1, -1], [2, 1, 3, 0], [2, 1, 3]),
        ])

    def test_rows_by_hand_where_x_is_no_solution(self):
        self.check_rows([
            ([1, -1], [5, 1], [1, 0]),
            ([1, -1], [0, 12], [0]),
            ([2, -3], [3, 1], [0]),
            ([2, -3], [4, 2], [1, 0]),
            ([2, -3, 1], [3, 2, 1], [2, 1, 2]),
            ([2, -3, 1], [1, 1, 3], [2, 0, 1]),
            ([2, -3, 1], [3, 2, 3], [3, 0, 1, 2]),
            ([2, -3, 1], [2, 2, 0], [0]),
            ([1, 1, -1, -1], [1, 0, 1, 1], [2, 2, 3]),
            ([1, 1, -1, -1], [0, 2, 0, 1], [1, 0]),
        ])


class AgainstTheDefinition(unittest.TestCase):
    def check(self, coefficients, vectors):
        # Nothing minimal has an element above 6.
        minimal = helper.minimal_by_definition(coefficients, 6)
        for vector in vectors:
            numbers = helper.contained_by_definition(minimal, vector)
            expected = [len(numbers), *numbers]
            self.assertEqual(contained_solutions(coefficients, vector), expected, (coefficients, vector))

    def test_every_list_of_one(self):
        for coefficients in helper.all_coefficients(1):
            self.check(coefficients, helper.vectors_of_elements(range(13), 1))

    def test_every_list_of_two(self):
        for coefficients in helper.all_coefficients(2):
            self.check(coefficients, helper.vectors_of_elements(range(13), 2))

    def test_many_lists_of_three(self):
        for coefficients in helper.all_coefficients(3)[::17]:
            self.check(coefficients, helper.vectors_of_elements((0, 1, 2, 4, 12), 3))

    def test_many_lists_of_four_where_x_is_a_solution(self):
        for coefficients in helper.some_of_four(331):
            self.check(coefficients, helper.solutions_of_elements(coefficients, (0, 1, 5, 12)))

    def test_many_lists_of_four_with_x_of_each_kind(self):
        vectors = helper.vectors_of_elements((0, 1, 2, 3, 5, 6, 12), 4)
        for start, coefficients in enumerate(helper.some_of_four(331)):
            self.check(coefficients, vectors[start::149])

    def test_lists_of_four_with_many_minimal_solutions(self):
        vectors = helper.vectors_of_elements((0, 1, 3, 5, 7), 4)
        for coefficients in ([-6, -6, 5, 5], [6, -5, 6, -5], [1, 1, -6, -5], [4, -3, -2, 5], [-6, 1, 1, 1]):
            self.check(coefficients, vectors[::3])


class Edges(RowTests):
    def test_the_zero_vector(self):
        for coefficients in helper.all_coefficients(1) + helper.all_coefficients(2) + helper.some_of_four(307):
            self.check_rows([(coefficients, [0] * len(coefficients), [0])])

    def test_a_minimal_solution_contains_itself_alone(self):
        lists = helper.all_coefficients(1) + helper.all_coefficients(2) + helper.some_of_four(211)
        for coefficients in lists + helper.all_coefficients(3)[::7]:
            for number, vector in enumerate(helper.vectors_of(minimal_solutions(coefficients), len(coefficients))):
                self.check_rows([(coefficients, vector, [1, number])])

    def test_what_is_one_below_a_minimal_solution_contains_none(self):
        for coefficients in helper.all_coefficients(2) + helper.some_of_four(523):
            for vector in helper.vectors_of(minimal_solutions(coefficients), len(coefficients)):
                for place, element in enumerate(vector):
                    if element > 0:
                        self.check_rows([(coefficients, vector[:place] + [element - 1] + vector[place + 1:], [0])])

    def test_no_minimal_solution(self):
        for coefficients in ([1], [-6], [6, 6], [-1, -6], [1, 2, 3], [-6, -6, -6, -6]):
            for element in (0, 1, 12):
                self.check_rows([(coefficients, [element] * len(coefficients), [0])])

    def test_all_coefficients_are_zero(self):
        for length in range(1, 5):
            for vector in itertools.product((0, 1, 12), repeat=length):
                # The higher the number, the further ahead stands the single 1.
                numbers = [number for number in range(length) if vector[length - 1 - number] > 0]
                self.check_rows([([0] * length, list(vector), [len(numbers), *numbers])])

    def test_a_zero_among_others(self):
        self.check_rows([
            ([0, 5], [12, 0], [1, 0]),
            ([0, 5], [12, 12], [1, 0]),
            ([0, 5], [0, 12], [0]),
            ([-6, 0], [12, 1], [1, 0]),
            ([1, 0, -1], [12, 0, 12], [1, 1]),
            ([1, 0, -1], [12, 7, 0], [1, 0]),
            ([1, 0, -1], [1, 1, 1], [2, 0, 1]),
            ([2, 0, -3, 1], [3, 1, 2, 0], [2, 1, 3]),
            ([3, 0, 0, 4], [12, 0, 1, 12], [1, 0]),
        ])

    def test_the_outermost_coefficients_and_elements(self):
        self.check_rows([
            ([6, -6], [12, 12], [1, 0]),
            ([6, -6], [12, 0], [0]),
            ([6, -5], [5, 6], [1, 0]),
            ([6, -5], [4, 12], [0]),
            ([6, -5], [12, 5], [0]),
            ([6, -6, 6, -6], [12, 12, 12, 12], [4, 0, 1, 2, 3]),
            ([6, -6, 6, -6], [12, 0, 0, 12], [1, 2]),
            ([6, -6, 6, -6], [12, 0, 12, 0], [0]),
            ([2, -3, 1], [12, 12, 12], [3, 0, 1, 2]),
            ([2, -3, 1], [12, 0, 12], [0]),
        ])

    def test_all_of_many_minimal_solutions(self):
        for coefficients in ([-6, -6, 5, 5], [-6, 1, 1, 1], [6, 5, -4, -3]):
            count = minimal_solutions(coefficients)[0]
            self.assertGreater(count, 7)
            for element in (6, 12):
                self.check_rows([(coefficients, [element] * 4, [count, *range(count)])])


class Refusals(helper.LimitsTests, unittest.TestCase):
    operation = staticmethod(contained_solutions)


class Interface(helper.InterfaceTests, unittest.TestCase):
    operation = staticmethod(contained_solutions)
    CALLS = [
        ([2, -3, 1], [3, 2, 1]), ([2, -3, 1], [3, 3, 3]), ([-6], [12]), ([0, 0, 0, 0], [0, 12, 1, 5]),
        ([6, -6, 6, -6], [12, 12, 12, 12]), ([2, -3, 1], [0, 0, 0]), ([0, 5], [12, 12]),
        ([], []), ([7], [1]), ([1, -1], [13, 13]), ([1, -1], [1]), ([1, 2, 3, 4, 5], [1, 1, 1, 1, 1]),
    ]

    def test_the_arguments_are_called_as_told(self):
        self.assertEqual(contained_solutions(coefficients=[1, -1], x=[2, 1]), [1, 0])


if __name__ == "__main__":
    unittest.main()
