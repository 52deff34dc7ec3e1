"""What the document says of the whole program: its examples, its requirements and what holds for each function."""

import unittest

import helper
from leastsums import solutions

REFUSALS = [helper.NO_ELEMENT, helper.REFUSAL, helper.NO_SOLUTION]

EXAMPLES = [
    ("minimal_solutions", ([2, -3, 1],), [3, 0, 1, 3, 1, 1, 1, 3, 2, 0]),
    ("decompose", ([2, -3, 1], [3, 3, 3]), [2, 1, 0, 1]),
    ("count_decompositions", ([2, -3, 1], [3, 3, 3]), [2]),
    ("evaluate", ([2, -3, 1], [1, 0, 0]), [0, 2]),
    ("decompose", ([2, -3, 1], [1, 0, 0]), [-33]),
]

COEFFICIENTS = [
    [2, -3, 1], [1, 1, -1, -1], [0], [-6], [0, 5], [6, -5], [0, 0, 0, 0], [-6, -6, 5, 5], [1, 2, 3], [-6, 1, 1, 1],
    [], [7], [-7, 1], [1, -1, 1, -1, 1], [2147483647, -2147483648], [0, 0, 0, 0, 0, 0],
]


def calls_on(coefficients):
    """Calls of every function on these coefficients, allowed and refused ones."""
    length = len(coefficients)
    calls = [("minimal_solutions", (coefficients,))]
    for index in (0, 1, 3, length, 4294967295):
        calls.append(("smallest_with", (index, coefficients)))
    for x in ([0] * length, [1] * length, [12] * length, [3, 2, 1, 0, 0, 0][:length], [13] * length, [1] * 5, []):
        for name in ("evaluate", "decompose", "count_decompositions", "contained_solutions"):
            calls.append((name, (coefficients, x)))
    return calls


def all_calls():
    return [call for coefficients in COEFFICIENTS for call in calls_on(coefficients)]


def answer_to(call):
    name, arguments = call
    return getattr(solutions, name)(*arguments)


def many_minimal_vectors():
    """Many coefficients, each with its minimal solutions as vectors."""
    lists = helper.all_coefficients(1) + helper.all_coefficients(2) + helper.some_of_four(173)
    for coefficients in lists + helper.all_coefficients(3)[::3]:
        yield coefficients, helper.vectors_of(solutions.minimal_solutions(coefficients), len(coefficients))


class Examples(unittest.TestCase):
    def test_each_example(self):
        for name, arguments, expected in EXAMPLES:
            self.assertEqual(answer_to((name, arguments)), expected, (name, arguments))

    def test_the_two_sums_of_the_example(self):
        vectors = helper.vectors_of(solutions.minimal_solutions([2, -3, 1]), 3)
        self.assertEqual(helper.sum_of_multiples([1, 0, 1], vectors, 3), [3, 3, 3])
        self.assertEqual(helper.sum_of_multiples([0, 3, 0], vectors, 3), [3, 3, 3])
        self.assertEqual(solutions.contained_solutions([2, -3, 1], [3, 3, 3]), [3, 0, 1, 2])


class Decomposition(unittest.TestCase):
    def test_a_solution_is_a_sum_of_minimal_ones_that_are_contained_in_it(self):
        known = {}
        for coefficients, solution in helper.many_solutions():
            told = (coefficients, solution)
            length = len(coefficients)
            if tuple(coefficients) not in known:
                known[tuple(coefficients)] = helper.vectors_of(solutions.minimal_solutions(coefficients), length)
            vectors = known[tuple(coefficients)]
            self.assertEqual(solutions.evaluate(coefficients, solution), [1, 0], told)
            count, *multiplicities = solutions.decompose(coefficients, solution)
            self.assertEqual(count, sum(multiplicities), told)
            self.assertEqual(helper.sum_of_multiples(multiplicities, vectors, length), solution, told)
            self.assertGreaterEqual(solutions.count_decompositions(coefficients, solution)[0], 1, told)
            used = [number for number, times in enumerate(multiplicities) if times > 0]
            numbers = solutions.contained_solutions(coefficients, solution)[1:]
            self.assertLessEqual(set(used), set(numbers), told)
            # The lowest number that is contained is subtracted first.
            self.assertEqual(used[:1], numbers[:1], told)


class Minimality(unittest.TestCase):
    def test_no_minimal_solution_contains_another(self):
        for coefficients, vectors in many_minimal_vectors():
            for number, vector in enumerate(vectors):
                self.assertEqual(solutions.evaluate(coefficients, vector), [1, 0], (coefficients, vector))
                answer = solutions.contained_solutions(coefficients, vector)
                self.assertEqual(answer, [1, number], (coefficients, vector))
                others = vectors[:number] + vectors[number + 1:]
                self.assertFalse(any(helper.contained(other, vector) for other in others), (coefficients, vector))

    def test_a_minimal_solution_is_a_sum_of_itself_alone(self):
        for coefficients, vectors in many_minimal_vectors():
            for number, vector in enumerate(vectors):
                multiplicities = [int(other == number) for other in range(len(vectors))]
                self.assertEqual(solutions.decompose(coefficients, vector), [1, *multiplicities], coefficients)
                self.assertEqual(solutions.count_decompositions(coefficients, vector), [1], coefficients)


class Bound(unittest.TestCase):
    def test_no_element_is_above_the_largest_coefficient(self):
        for coefficients, vectors in many_minimal_vectors():
            largest = max(abs(coefficient) for coefficient in coefficients)
            for vector in vectors:
                for coefficient, element in zip(coefficients, vector, strict=True):
                    self.assertTrue(0 <= element <= 6, (coefficients, vector))
                    self.assertTrue(coefficient == 0 or element <= largest, (coefficients, vector))

    def test_the_smallest_with_an_element_is_one_of_them(self):
        for coefficients, vectors in many_minimal_vectors():
            for index in range(len(coefficients)):
                answer = solutions.smallest_with(index, coefficients)
                if any(vector[index] > 0 for vector in vectors):
                    self.assertIn(answer[1:], vectors, (index, coefficients))
                    self.assertEqual(answer[0], sum(answer[1:]), (index, coefficients))
                    self.assertGreater(answer[1 + index], 0, (index, coefficients))
                else:
                    self.assertEqual(answer, helper.NO_SOLUTION, (index, coefficients))


class EachFunction(unittest.TestCase):
    def test_the_first_number_is_below_zero_just_where_it_is_a_refusal(self):
        seen = []
        for call in all_calls():
            answer = answer_to(call)
            self.assertIs(type(answer), list, call)
            self.assertEqual({type(number) for number in answer}, {int}, call)
            if answer[0] < 0:
                self.assertIn(answer, REFUSALS, call)
                seen.append(answer)
        for refusal in REFUSALS:
            self.assertIn(refusal, seen)

    def test_how_much_is_answered(self):
        for coefficients in COEFFICIENTS:
            count = solutions.minimal_solutions(coefficients)[0]
            length = len(coefficients)
            for name, arguments in calls_on(coefficients):
                answer = answer_to((name, arguments))
                if answer[0] >= 0:
                    self.assertEqual(len(answer), {
                        "minimal_solutions": 1 + count * length,
                        "evaluate": 2,
                        "decompose": 1 + count,
                        "count_decompositions": 1,
                        "smallest_with": 1 + length,
                        "contained_solutions": 1 + answer[0],
                    }[name], (name, arguments))

    def test_nothing_handed_in_is_changed(self):
        for name, arguments in all_calls():
            handed_in = [helper.Untouched(given) if isinstance(given, list) else given for given in arguments]
            answer_to((name, handed_in))
            self.assertEqual(handed_in, list(arguments), (name, arguments))

    def test_no_answer_is_a_list_that_was_handed_in(self):
        for name, arguments in all_calls():
            answer = answer_to((name, arguments))
            self.assertFalse(any(answer is given for given in arguments), (name, arguments))

    def test_an_answer_hangs_on_no_call_ahead_of_it(self):
        calls = all_calls()
        forwards = [answer_to(call) for call in calls]
        kept = [list(answer) for answer in forwards]
        for answer in forwards:
            answer[:] = [98, 99]
        self.assertEqual([answer_to(call) for call in calls], kept)
        backwards = [answer_to(call) for call in reversed(calls)]
        self.assertEqual(backwards[::-1], kept)

    def test_a_list_that_is_used_again_is_read_again(self):
        coefficients, x = [2, -3, 1], [3, 3, 3]
        self.assertEqual(solutions.count_decompositions(coefficients, x), [2])
        self.assertEqual(solutions.smallest_with(0, coefficients), [3, 1, 1, 1])
        coefficients[:], x[:] = [1, -1], [4, 4]
        self.assertEqual(solutions.count_decompositions(coefficients, x), [1])
        self.assertEqual(solutions.smallest_with(0, coefficients), [2, 1, 1])
        self.assertEqual(solutions.contained_solutions(coefficients, x), [1, 0])


if __name__ == "__main__":
    unittest.main()
