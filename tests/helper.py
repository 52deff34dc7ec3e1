"""What several tests use: searches by the definitions, many arguments, and tests that each operation has to pass."""

import contextlib
import io
import itertools

REFUSAL = [-22]
NO_ELEMENT = [-2]
NO_SOLUTION = [-33]

# Each one is outside the limits, and may be handed in all the same.
REFUSED_COEFFICIENTS = [
    [],
    [1, -1, 1, -1, 1],
    [0, 0, 0, 0, 0],
    [1, -1, 1, -1, 1, -1],
    [7],
    [-7],
    [7, -1],
    [-1, 7],
    [-7, 1, 1, 1],
    [1, 1, 1, -7],
    [1, -1, 7, 0],
    [2147483647],
    [-2147483648],
    [2147483647, -2147483648],
    [0, 0, 0, 2147483647],
    [0, -2147483648, 0, 0],
    [7, 7, 7, 7, 7],
    [2147483647] * 6,
    [-2147483648] * 6,
]


def contained(inner, outer):
    return all(inner[place] <= outer[place] for place in range(len(outer)))


def linear_form(coefficients, vector):
    value = 0
    for place in range(len(coefficients)):
        value += coefficients[place] * vector[place]
    return value


def minimal_by_definition(coefficients, highest):
    """The minimal solutions with elements up to the highest one, each told by the words of the definition."""
    box = itertools.product(range(highest + 1), repeat=len(coefficients))
    solutions = [vector for vector in box if any(vector) and linear_form(coefficients, vector) == 0]
    minimal = []
    for vector in solutions:
        if not any(contained(other, vector) and other != vector for other in solutions):
            minimal.append(vector)
    return sorted(minimal)


def vectors_of_elements(values, length):
    """All the vectors of this length with elements among the values."""
    return [list(vector) for vector in itertools.product(values, repeat=length)]


def solutions_of_elements(coefficients, values):
    """All the solutions with elements among the values."""
    vectors = vectors_of_elements(values, len(coefficients))
    return [vector for vector in vectors if linear_form(coefficients, vector) == 0]


def greedy_by_definition(minimal, solution):
    """How often each minimal solution is subtracted, one subtraction after the other as the definition tells."""
    rest = list(solution)
    multiplicities = [0] * len(minimal)
    while any(rest):
        number = min(number for number, vector in enumerate(minimal) if contained(vector, rest))
        multiplicities[number] += 1
        rest = [rest[place] - minimal[number][place] for place in range(len(rest))]
    return multiplicities


def decompositions_by_definition(minimal, solution):
    """The lists of multiplicities for the minimal solutions that have this sum, each one written out."""
    begun = [([], list(solution))]
    for vector in minimal:
        longer = []
        for multiplicities, rest in begun:
            times = 0
            while all(element >= 0 for element in rest):
                longer.append((multiplicities + [times], rest))
                rest = [rest[place] - vector[place] for place in range(len(rest))]
                times += 1
        begun = longer
    return [multiplicities for multiplicities, rest in begun if not any(rest)]


def smallest_by_definition(minimal, index):
    """What is to be answered of the minimal solutions with a positive element at the index."""
    smallest = None
    # Only a smaller sum takes the place of what a lower number brought.
    for vector in minimal:
        if vector[index] > 0 and (smallest is None or sum(vector) < smallest[0]):
            smallest = [sum(vector), *vector]
    return NO_SOLUTION if smallest is None else smallest


def contained_by_definition(minimal, vector):
    """The numbers of the minimal solutions that are contained in the vector."""
    return [number for number in range(len(minimal)) if contained(minimal[number], vector)]


def expected_answers(coefficients, values, answer_to_solution):
    """Each vector with elements among the values, and what is to be answered where it has to be a solution."""
    # Nothing minimal has an element above 6.
    minimal = minimal_by_definition(coefficients, 6)
    for vector in vectors_of_elements(values, len(coefficients)):
        if linear_form(coefficients, vector) == 0:
            yield vector, answer_to_solution(minimal, vector)
        else:
            yield vector, NO_SOLUTION


def sum_of_multiples(multiplicities, vectors, length):
    total = [0] * length
    for times, vector in zip(multiplicities, vectors, strict=True):
        total = [total[place] + times * vector[place] for place in range(length)]
    return total


def flat_answer(vectors):
    answer = [len(vectors)]
    for vector in vectors:
        answer.extend(vector)
    return answer


def vectors_of(answer, length):
    """The vectors that an answer of minimal_solutions tells."""
    return [answer[start:start + length] for start in range(1, len(answer), length)]


def all_coefficients(length):
    return [list(coefficients) for coefficients in itertools.product(range(-6, 7), repeat=length)]


def some_of_four(step):
    """Each step-th one of all the lists of four coefficients."""
    return all_coefficients(4)[::step]


def many_solutions():
    """Many coefficients, each with many of its solutions one after the other."""
    for coefficients in all_coefficients(1) + all_coefficients(2):
        for solution in solutions_of_elements(coefficients, range(13)):
            yield coefficients, solution
    for coefficients in all_coefficients(3)[::5]:
        for solution in solutions_of_elements(coefficients, (0, 1, 2, 4, 7, 9, 12)):
            yield coefficients, solution
    for coefficients in some_of_four(197):
        for solution in solutions_of_elements(coefficients, (0, 1, 6, 11, 12)):
            yield coefficients, solution


def refuse_change(*arguments, **keywords):
    raise AssertionError("what was handed in is changed")


class Untouched(list):
    """A list that fails at the first change, also at one that would be undone."""

    __setitem__ = __delitem__ = __iadd__ = __imul__ = refuse_change
    append = clear = extend = insert = pop = remove = reverse = sort = refuse_change


class InterfaceTests:
    """What holds for each operation. A test case that takes these tests over tells its operation and its CALLS."""

    def answers(self):
        return [self.operation(*arguments) for arguments in self.CALLS]

    def test_one_list_of_whole_numbers(self):
        for answer in self.answers():
            self.assertIs(type(answer), list)
            self.assertEqual({type(number) for number in answer}, {int})

    def test_nothing_handed_in_is_changed(self):
        for arguments in self.CALLS:
            handed_in = [Untouched(given) if isinstance(given, list) else given for given in arguments]
            self.operation(*handed_in)
            self.assertEqual(handed_in, list(arguments))

    def test_a_second_call_answers_as_the_first(self):
        first = self.answers()
        kept = [list(answer) for answer in first]
        for answer in first:
            answer.append(99)
            answer[0] = 98
        self.assertEqual(self.answers(), kept)

    def test_it_prints_nothing(self):
        shown = io.StringIO()
        with contextlib.redirect_stdout(shown), contextlib.redirect_stderr(shown):
            self.answers()
        self.assertEqual(shown.getvalue(), "")


class LimitsTests:
    """The refusals of an operation on coefficients and x, which a test case takes over as those of InterfaceTests."""

    def check_refused(self, coefficients, x):
        self.assertEqual(self.operation(coefficients, x), REFUSAL, (coefficients, x))

    def test_coefficients_outside_the_limits(self):
        for coefficients in REFUSED_COEFFICIENTS:
            self.check_refused(coefficients, [0] * len(coefficients))
            self.check_refused(coefficients, [1] * len(coefficients))

    def test_x_of_another_length(self):
        for length in range(1, 5):
            for other in range(7):
                if other != length:
                    self.check_refused([1, -1, 0, 2][:length], [0] * other)
                    self.check_refused([1, 1, 1, 1][:length], [1] * other)
                    self.check_refused([0] * length, [1] * other)

    def test_an_element_of_x_above_its_limit(self):
        for element in (13, 14, 4294967295):
            for coefficients in ([1], [0], [1, -1], [2, -3, 1], [0, 0, 0, 0], [6, -6, 6, -6]):
                for place in range(len(coefficients)):
                    x = [0] * len(coefficients)
                    x[place] = element
                    self.check_refused(coefficients, x)
                self.check_refused(coefficients, [element] * len(coefficients))

    def test_both_outside_the_limits(self):
        self.check_refused([], [1])
        self.check_refused([], [13])
        self.check_refused([7], [13])
        self.check_refused([-7, 1], [0, 0, 0])
        self.check_refused([1, 2, 3, 4, 5], [0, 0, 0, 0])
        self.check_refused([1, 2, 3, 4, 5], [13, 0, 0, 0, 0])
        self.check_refused([1, 2, 3, 4, 5, 6], [])
        self.check_refused([2147483647, -2147483648], [4294967295, 4294967295])


class SolutionTests(LimitsTests, InterfaceTests):
    """What holds for an operation on coefficients and an x that has to be a solution."""

    CALLS = [
        ([2, -3, 1], [3, 3, 3]), ([2, -3, 1], [1, 0, 0]), ([-6], [0]), ([0, 0, 0, 0], [0, 12, 1, 5]), ([1, 2], [0, 0]),
        ([6, -6, 6, -6], [12, 12, 12, 12]), ([-6, -6, 5, 5], [10, 10, 12, 12]), ([2, -3, 1], [0, 0, 0]),
        ([], []), ([7], [1]), ([1, -1], [13, 13]), ([1, -1], [1]), ([1, 2, 3, 4, 5], [1, 1, 1, 1, 1]),
    ]

    def test_no_solution_within_the_limits(self):
        for coefficients, x in (
                ([1], [1]), ([-6], [12]), ([1, -1], [12, 11]), ([2, -3, 1], [0, 0, 1]), ([6, 6, 6, 6], [0, 0, 0, 1]),
                ([0, 0, 0, 1], [12, 12, 12, 1]), ([-2, 1, 0, 0], [11, 0, 9, 9]), ([-3, 0], [11, 0])):
            self.assertEqual(self.operation(coefficients, x), NO_SOLUTION, (coefficients, x))
