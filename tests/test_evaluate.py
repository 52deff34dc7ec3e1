import contextlib
import io
import itertools
import unittest

import helper
from leastsums.solutions import evaluate


class Ordinary(unittest.TestCase):
    def check_rows(self, rows):
        for coefficients, x, expected in rows:
            self.assertEqual(evaluate(coefficients, x), expected, (coefficients, x))

    def test_the_example(self):
        self.assertEqual(evaluate([2, -3, 1], [1, 0, 0]), [0, 2])

    def test_solutions(self):
        self.check_rows([
            ([0], [7], [1, 0]),
            ([1, -1], [5, 5], [1, 0]),
            ([2, -3, 1], [3, 3, 3], [1, 0]),
            ([2, -3, 1], [0, 1, 3], [1, 0]),
            ([6, -5, 4, -3], [1, 2, 1, 0], [1, 0]),
        ])

    def test_values_above_zero(self):
        self.check_rows([
            ([3], [4], [0, 12]),
            ([1, -1], [2, 1], [0, 1]),
            ([2, -3, 1], [5, 1, 2], [0, 9]),
            ([1, 2, 3, 4], [4, 3, 2, 1], [0, 20]),
        ])

    def test_values_below_zero(self):
        self.check_rows([
            ([-3], [4], [0, -12]),
            ([1, -1], [1, 2], [0, -1]),
            ([2, -3, 1], [0, 1, 0], [0, -3]),
            ([-2, 0, -1, 2], [11, 3, 1, 1], [0, -21]),
            ([-2, 1, 0, 0], [11, 0, 9, 9], [0, -22]),
        ])

    def test_the_zero_vector_is_a_solution(self):
        for coefficients in ([5], [-6, 6], [1, 2, 3], [0, 0, 0, 0], [-6, -6, -6, -6]):
            self.assertEqual(evaluate(coefficients, [0] * len(coefficients)), [1, 0])

    def test_against_the_definition(self):
        for length, step, elements in ((1, 1, range(13)), (2, 1, (0, 1, 5, 12)), (3, 5, (0, 2, 12)), (4, 61, (0, 3, 12))):
            for coefficients in helper.all_coefficients(length)[::step]:
                for vector in itertools.product(elements, repeat=length):
                    value = helper.linear_form(coefficients, vector)
                    self.assertEqual(evaluate(coefficients, list(vector)), [int(value == 0), value])


class Edges(unittest.TestCase):
    def test_the_outermost_coefficients_and_elements(self):
        rows = [
            ([6], [12], [0, 72]),
            ([-6], [12], [0, -72]),
            ([0], [12], [1, 0]),
            ([6], [0], [1, 0]),
            ([6, -6], [12, 12], [1, 0]),
            ([6, -6], [12, 0], [0, 72]),
            ([6, -6], [0, 12], [0, -72]),
            ([6, 6, 6, 6], [12, 12, 12, 12], [0, 288]),
            ([-6, -6, -6, -6], [12, 12, 12, 12], [0, -288]),
            ([0, 0, 0, 0], [12, 0, 12, 0], [1, 0]),
            ([6, 0, -6, 0], [12, 12, 11, 12], [0, 6]),
        ]
        for coefficients, x, expected in rows:
            self.assertEqual(evaluate(coefficients, x), expected, (coefficients, x))


class Refusals(unittest.TestCase):
    def check_refused(self, coefficients, x):
        self.assertEqual(evaluate(coefficients, x), helper.REFUSAL, (coefficients, x))

    def test_coefficients_outside_the_limits(self):
        for coefficients in helper.REFUSED_COEFFICIENTS:
            self.check_refused(coefficients, [0] * len(coefficients))
            self.check_refused(coefficients, [1] * len(coefficients))

    def test_x_of_another_length(self):
        for length in range(1, 5):
            for other in range(7):
                if other != length:
                    self.check_refused([1, -1, 0, 2][:length], [0] * other)
                    self.check_refused([0] * length, [1] * other)

    def test_an_element_of_x_above_its_limit(self):
        for element in (13, 14, 4294967295):
            for coefficients in ([1], [0], [1, -1], [2, -3, 1], [0, 0, 0, 0], [6, -6, 6, -6]):
                for place in range(len(coefficients)):
                    x = [0] * len(coefficients)
                    x[place] = element
                    self.check_refused(coefficients, x)
                self.check_refused(coefficients, [element] * len(coefficients))

    def test_both_outside_the_limits(self):
        self.check_refused([], [1])
        self.check_refused([], [13])
        self.check_refused([7], [13])
        self.check_refused([-7, 1], [0, 0, 0])
        self.check_refused([1, 2, 3, 4, 5], [0, 0, 0, 0])
        self.check_refused([1, 2, 3, 4, 5], [13, 0, 0, 0, 0])
        self.check_refused([1, 2, 3, 4, 5, 6], [])
        self.check_refused([2147483647, -2147483648], [4294967295, 4294967295])


class Interface(unittest.TestCase):
    CALLS = [
        ([2, -3, 1], [1, 0, 0]), ([2, -3, 1], [3, 3, 3]), ([-6], [12]), ([0, 0, 0, 0], [0, 12, 1, 5]),
        ([], []), ([7], [1]), ([1, -1], [13, 13]), ([1, -1], [1]), ([1, 2, 3, 4, 5], [1, 1, 1, 1, 1]),
    ]

    def test_one_list_of_whole_numbers(self):
        for coefficients, x in self.CALLS:
            answer = evaluate(coefficients, x)
            self.assertIs(type(answer), list)
            self.assertEqual({type(number) for number in answer}, {int})

    def test_the_arguments_are_called_as_told(self):
        self.assertEqual(evaluate(coefficients=[1, -2], x=[1, 1]), [0, -1])

    def test_nothing_handed_in_is_changed(self):
        for coefficients, x in self.CALLS:
            handed_in = helper.Untouched(coefficients), helper.Untouched(x)
            evaluate(handed_in[0], handed_in[1])
            self.assertEqual(handed_in, (coefficients, x))

    def test_a_second_call_answers_as_the_first(self):
        first = [evaluate(coefficients, x) for coefficients, x in self.CALLS]
        kept = [list(answer) for answer in first]
        for answer in first:
            answer.append(99)
            answer[0] = 98
        self.assertEqual([evaluate(coefficients, x) for coefficients, x in self.CALLS], kept)

    def test_it_prints_nothing(self):
        shown = io.StringIO()
        with contextlib.redirect_stdout(shown), contextlib.redirect_stderr(shown):
            for coefficients, x in self.CALLS:
                evaluate(coefficients, x)
        self.assertEqual(shown.getvalue(), "")


if __name__ == "__main__":
    unittest.main()
