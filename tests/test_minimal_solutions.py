import unittest

import helper
from leastsums.solutions import minimal_solutions


class Example(unittest.TestCase):
    def test_the_example(self):
        self.assertEqual(minimal_solutions([2, -3, 1]), [3, 0, 1, 3, 1, 1, 1, 3, 2, 0])


class AgainstTheDefinition(unittest.TestCase):
    def check(self, coefficients, highest):
        expected = helper.flat_answer(helper.minimal_by_definition(coefficients, highest))
        self.assertEqual(minimal_solutions(coefficients), expected, coefficients)

    def test_every_list_of_one(self):
        for coefficients in helper.all_coefficients(1):
            self.check(coefficients, 20)

    def test_every_list_of_two(self):
        for coefficients in helper.all_coefficients(2):
            self.check(coefficients, 12)

    def test_every_list_of_three(self):
        for coefficients in helper.all_coefficients(3):
            self.check(coefficients, 6)

    def test_nothing_minimal_lies_above_six(self):
        for coefficients in helper.all_coefficients(3)[::37]:
            self.check(coefficients, 12)
        self.check([6, -5, -1, 4], 8)

    def test_many_lists_of_four(self):
        for coefficients in helper.some_of_four(211):
            self.check(coefficients, 6)

    def test_lists_of_four_with_the_largest_coefficients(self):
        for coefficients in ([6, -6, 6, -6], [6, 5, -6, -5], [-6, 1, 1, 1], [5, -6, 0, 1], [6, -1, -2, -3]):
            self.check(coefficients, 6)


class Edges(unittest.TestCase):
    def check_rows(self, rows):
        for coefficients, expected in rows:
            self.assertEqual(minimal_solutions(coefficients), expected, coefficients)

    def test_all_coefficients_are_zero(self):
        self.check_rows([
            ([0], [1, 1]),
            ([0, 0], [2, 0, 1, 1, 0]),
            ([0, 0, 0], [3, 0, 0, 1, 0, 1, 0, 1, 0, 0]),
            ([0, 0, 0, 0], [4, 0, 0, 0, 1, 0, 0, 1, 0, 0, 1, 0, 0, 1, 0, 0, 0]),
        ])

    def test_a_zero_among_others(self):
        self.check_rows([
            ([0, 5], [1, 1, 0]),
            ([-6, 0], [1, 0, 1]),
            ([1, 0, -1], [2, 0, 1, 0, 1, 0, 1]),
            ([3, 0, 0, 4], [2, 0, 0, 1, 0, 0, 1, 0, 0]),
        ])

    def test_one_coefficient_other_than_zero(self):
        self.check_rows([([value], [0]) for value in range(-6, 7) if value != 0])

    def test_all_above_or_all_below_zero(self):
        self.check_rows([
            ([1, 1], [0]),
            ([6, 6], [0]),
            ([1, 2, 3], [0]),
            ([6, 6, 6, 6], [0]),
            ([1, 2, 3, 4], [0]),
            ([-1, -6], [0]),
            ([-6, -6, -6, -6], [0]),
        ])

    def test_the_outermost_coefficients(self):
        self.check_rows([
            ([6, -6], [1, 1, 1]),
            ([-6, 6], [1, 1, 1]),
            ([6, -5], [1, 5, 6]),
            ([-1, 6], [1, 6, 1]),
            ([-6, 6, -6, 6], [4, 0, 0, 1, 1, 0, 1, 1, 0, 1, 0, 0, 1, 1, 1, 0, 0]),
        ])


class Refusals(unittest.TestCase):
    def test_outside_the_limits(self):
        for coefficients in helper.REFUSED_COEFFICIENTS:
            self.assertEqual(minimal_solutions(coefficients), helper.REFUSAL, coefficients)


class Requirements(unittest.TestCase):
    def many_coefficients(self):
        lists = helper.some_of_four(29)
        for length in (1, 2, 3):
            lists.extend(helper.all_coefficients(length))
        return lists

    def test_no_minimal_solution_contains_another(self):
        for coefficients in self.many_coefficients():
            vectors = helper.vectors_of(minimal_solutions(coefficients), len(coefficients))
            for number, vector in enumerate(vectors):
                others = vectors[:number] + vectors[number + 1:]
                self.assertFalse(any(helper.contained(other, vector) for other in others), coefficients)

    def test_the_bound(self):
        for coefficients in self.many_coefficients():
            largest = max(abs(value) for value in coefficients)
            for vector in helper.vectors_of(minimal_solutions(coefficients), len(coefficients)):
                for coefficient, element in zip(coefficients, vector):
                    self.assertTrue(coefficient == 0 or element <= largest, coefficients)

    def test_they_are_solutions_in_increasing_order_and_counted(self):
        for coefficients in self.many_coefficients():
            answer = minimal_solutions(coefficients)
            vectors = helper.vectors_of(answer, len(coefficients))
            self.assertEqual(len(answer), 1 + answer[0] * len(coefficients))
            self.assertEqual(vectors, sorted(vectors))
            for vector in vectors:
                self.assertTrue(any(vector))
                self.assertEqual(helper.linear_form(coefficients, vector), 0)


class Interface(helper.InterfaceTests, unittest.TestCase):
    operation = staticmethod(minimal_solutions)
    CALLS = [
        ([2, -3, 1],), ([1, -1],), ([0, 0],), ([0, 0, 0, 0],), ([6, -5, 4, -3],), ([5],),
        ([],), ([7],), ([1, 2, 3, 4, 5],),
    ]

    def test_the_argument_is_called_as_told(self):
        self.assertEqual(minimal_solutions(coefficients=[1, -1]), [1, 1, 1])


if __name__ == "__main__":
    unittest.main()
