"""What several tests use: a search by the definition, lists that refuse a change, lists of coefficients."""

import itertools

REFUSAL = [-22]

# Each one is outside the limits, and may be handed in all the same.
REFUSED_COEFFICIENTS = [
    [],
    [1, -1, 1, -1, 1],
    [0, 0, 0, 0, 0],
    [1, -1, 1, -1, 1, -1],
    [7],
    [-7],
    [7, -1],
    [-1, 7],
    [-7, 1, 1, 1],
    [1, 1, 1, -7],
    [1, -1, 7, 0],
    [2147483647],
    [-2147483648],
    [2147483647, -2147483648],
    [0, 0, 0, 2147483647],
    [0, -2147483648, 0, 0],
    [7, 7, 7, 7, 7],
    [2147483647] * 6,
    [-2147483648] * 6,
]


def contained(inner, outer):
    return all(inner[place] <= outer[place] for place in range(len(outer)))


def linear_form(coefficients, vector):
    value = 0
    for place in range(len(coefficients)):
        value += coefficients[place] * vector[place]
    return value


def minimal_by_definition(coefficients, highest):
    """The minimal solutions with elements up to the highest one, each told by the words of the definition."""
    box = itertools.product(range(highest + 1), repeat=len(coefficients))
    solutions = [vector for vector in box if any(vector) and linear_form(coefficients, vector) == 0]
    minimal = []
    for vector in solutions:
        if not any(contained(other, vector) and other != vector for other in solutions):
            minimal.append(vector)
    return sorted(minimal)


def flat_answer(vectors):
    answer = [len(vectors)]
    for vector in vectors:
        answer.extend(vector)
    return answer


def vectors_of(answer, length):
    """The vectors that an answer of minimal_solutions tells."""
    return [answer[start:start + length] for start in range(1, len(answer), length)]


def all_coefficients(length):
    return [list(coefficients) for coefficients in itertools.product(range(-6, 7), repeat=length)]


def some_of_four(step):
    """Each step-th one of all the lists of four coefficients."""
    return all_coefficients(4)[::step]


def refuse_change(*arguments, **keywords):
    raise AssertionError("what was handed in is changed")


class Untouched(list):
    """A list that fails at the first change, also at one that would be undone."""

    __setitem__ = __delitem__ = __iadd__ = __imul__ = refuse_change
    append = clear = extend = insert = pop = remove = reverse = sort = refuse_change
