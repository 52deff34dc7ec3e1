import unittest

import helper
from leastsums.solutions import minimal_solutions, smallest_with


class RowTests(unittest.TestCase):
    def check_rows(self, rows):
        for index, coefficients, expected in rows:
            self.assertEqual(smallest_with(index, coefficients), expected, (index, coefficients))


class Ordinary(RowTests):
    def test_the_equation_of_the_document(self):
        self.check_rows([(index, [2, -3, 1], [3, 1, 1, 1]) for index in range(3)])

    def test_rows_by_hand(self):
        self.check_rows([
            (0, [0], [1, 1]),
            (0, [1, -1], [2, 1, 1]),
            (1, [1, -1], [2, 1, 1]),
            (0, [2, -3], [5, 3, 2]),
            (0, [1, -1, -2], [2, 1, 1, 0]),
            (1, [1, -1, -2], [2, 1, 1, 0]),
            (2, [1, -1, -2], [3, 2, 0, 1]),
            (0, [1, -2, 3, -4], [3, 1, 0, 1, 1]),
            (1, [1, -2, 3, -4], [3, 2, 1, 0, 0]),
            (2, [1, -2, 3, -4], [3, 1, 0, 1, 1]),
            (3, [1, -2, 3, -4], [3, 1, 0, 1, 1]),
        ])

    def test_the_smallest_sum_of_all_lies_elsewhere(self):
        self.check_rows([
            (0, [6, -1, 1], [7, 1, 6, 0]),
            (1, [6, -1, 1], [2, 0, 1, 1]),
            (2, [6, -1, 1], [2, 0, 1, 1]),
            (3, [5, -5, 0, 6], [11, 0, 6, 0, 5]),
        ])


class AgainstTheDefinition(unittest.TestCase):
    def check(self, lists):
        for coefficients in lists:
            # Nothing minimal has an element above 6.
            minimal = helper.minimal_by_definition(coefficients, 6)
            for index in range(len(coefficients)):
                expected = helper.smallest_by_definition(minimal, index)
                self.assertEqual(smallest_with(index, coefficients), expected, (index, coefficients))

    def test_every_list_of_one(self):
        self.check(helper.all_coefficients(1))

    def test_every_list_of_two(self):
        self.check(helper.all_coefficients(2))

    def test_every_list_of_three(self):
        self.check(helper.all_coefficients(3))

    def test_many_lists_of_four(self):
        self.check(helper.some_of_four(197))

    def test_lists_of_four_with_many_minimal_solutions(self):
        self.check([[-6, -6, 5, 5], [6, -5, 6, -5], [1, 1, -6, -5], [4, -3, -2, 5], [-6, 1, 1, 1], [6, 5, -4, -3]])


class Ties(RowTests):
    def test_the_lower_number_of_two_of_the_same_sum(self):
        self.check_rows([
            (0, [1, 1, -1, -1], [2, 1, 0, 0, 1]),
            (1, [1, 1, -1, -1], [2, 0, 1, 0, 1]),
            (2, [1, 1, -1, -1], [2, 0, 1, 1, 0]),
            (3, [1, 1, -1, -1], [2, 0, 1, 0, 1]),
            (0, [6, -6, 6, -6], [2, 1, 0, 0, 1]),
            (1, [6, -6, 6, -6], [2, 0, 1, 1, 0]),
            (2, [6, -6, 6, -6], [2, 0, 0, 1, 1]),
            (3, [6, -6, 6, -6], [2, 0, 0, 1, 1]),
            (0, [1, -1, -1], [2, 1, 0, 1]),
            (2, [1, 1, -1], [2, 0, 1, 1]),
        ])

    def test_the_one_of_the_same_sum_without_the_element_does_not_count(self):
        # The minimal solutions are 0 1 1 and 1 0 1: the lower number has a 0 at index 0.
        self.check_rows([(0, [1, 1, -1], [2, 1, 0, 1])])

    def test_the_lowest_number_of_three_of_the_same_sum(self):
        # The minimal solutions are 0 2 1, 1 1 1 and 2 0 1.
        self.check_rows([
            (0, [1, 1, -2], [3, 1, 1, 1]),
            (1, [1, 1, -2], [3, 0, 2, 1]),
            (2, [1, 1, -2], [3, 0, 2, 1]),
        ])

    def test_a_smaller_sum_goes_ahead_of_a_lower_number(self):
        # 0 0 2 1 has a lower number than 1 0 0 1, and 0 1 3 than 1 1 1.
        self.check_rows([
            (3, [2, 3, 1, -2], [2, 1, 0, 0, 1]),
            (1, [2, -3, 1], [3, 1, 1, 1]),
        ])

    def test_each_tie_in_many_lists(self):
        ties = 0
        for coefficients in helper.all_coefficients(3)[::5] + helper.some_of_four(307):
            vectors = helper.vectors_of(minimal_solutions(coefficients), len(coefficients))
            for index in range(len(coefficients)):
                candidates = [vector for vector in vectors if vector[index] > 0]
                least = min([sum(vector) for vector in candidates], default=0)
                same = [vector for vector in candidates if sum(vector) == least]
                if len(same) > 1:
                    ties += 1
                    self.assertEqual(smallest_with(index, coefficients), [least] + same[0], (index, coefficients))
        self.assertGreater(ties, 50)


class Edges(RowTests):
    def test_all_coefficients_are_zero(self):
        for length in range(1, 5):
            for index in range(length):
                unit = [0] * length
                unit[index] = 1
                self.check_rows([(index, [0] * length, [1] + unit)])

    def test_a_zero_at_the_index_and_beside_it(self):
        self.check_rows([
            (0, [0, 5], [1, 1, 0]),
            (1, [-6, 0], [1, 0, 1]),
            (0, [1, 0, -1], [2, 1, 0, 1]),
            (1, [1, 0, -1], [1, 0, 1, 0]),
            (2, [1, 0, -1], [2, 1, 0, 1]),
            (0, [3, 0, 0, -4], [7, 4, 0, 0, 3]),
            (1, [3, 0, 0, -4], [1, 0, 1, 0, 0]),
            (2, [3, 0, 0, -4], [1, 0, 0, 1, 0]),
            (3, [3, 0, 0, -4], [7, 4, 0, 0, 3]),
        ])

    def test_no_minimal_solution_at_all(self):
        for coefficients in ([1], [-6], [6, 6], [-1, -6], [1, 2, 3], [1, 2, 3, 4], [-6, -6, -6, -6]):
            for index in range(len(coefficients)):
                self.check_rows([(index, coefficients, helper.NO_SOLUTION)])

    def test_minimal_solutions_elsewhere_alone(self):
        self.check_rows([
            (1, [0, 5], helper.NO_SOLUTION),
            (0, [-6, 0], helper.NO_SOLUTION),
            (1, [0, 1, 0], helper.NO_SOLUTION),
            (0, [3, 0, 0, 4], helper.NO_SOLUTION),
            (3, [3, 0, 0, 4], helper.NO_SOLUTION),
        ])

    def test_the_outermost_coefficients(self):
        self.check_rows([
            (0, [6, -6], [2, 1, 1]),
            (0, [6, -5], [11, 5, 6]),
            (1, [-1, 6], [7, 6, 1]),
            (0, [-6, 1, 1, 1], [7, 1, 0, 0, 6]),
            (1, [-6, 1, 1, 1], [7, 1, 1, 0, 5]),
        ])


class Refusals(RowTests):
    def test_coefficients_outside_the_limits_at_any_index(self):
        for coefficients in helper.REFUSED_COEFFICIENTS:
            for index in (0, 1, 3, 4, 5, 6, 7, 4294967295):
                self.check_rows([(index, coefficients, helper.REFUSAL)])

    def test_no_element_with_this_index(self):
        for coefficients in ([0], [1, -1], [2, -3, 1], [0, 0, 0, 0], [6, -6, 6, -6], [1, 0, 0, -1], [0, 5]):
            for index in (len(coefficients), len(coefficients) + 1, 6, 13, 2147483648, 4294967295):
                self.check_rows([(index, coefficients, helper.NO_ELEMENT)])

    def test_no_element_where_there_is_no_minimal_solution_either(self):
        for coefficients in ([1], [-6], [6, 6], [1, 2, 3], [-1, -2, -3, -4], [6, 6, 6, 6]):
            for index in (len(coefficients), len(coefficients) + 1, 4294967295):
                self.check_rows([(index, coefficients, helper.NO_ELEMENT)])


class Interface(helper.InterfaceTests, unittest.TestCase):
    operation = staticmethod(smallest_with)
    CALLS = [
        (0, [2, -3, 1]), (2, [2, -3, 1]), (3, [1, 1, -1, -1]), (0, [0]), (2, [0, 0, 0, 0]), (0, [-6]), (1, [0, 5]),
        (3, [2, -3, 1]), (4294967295, [1, -1]), (1, [5]), (0, []), (0, [7]), (9, [1, 2, 3, 4, 5]),
    ]

    def test_the_arguments_are_called_as_told(self):
        self.assertEqual(smallest_with(index=1, coefficients=[1, -1]), [2, 1, 1])


if __name__ == "__main__":
    unittest.main()
