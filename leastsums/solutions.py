"""The operations on one linear equation, and the plain steps that they share.

Each operation answers one list of whole numbers. A refusal is a list of its code alone.
"""

OUTSIDE_LIMITS = -22

MOST_COEFFICIENTS = 4
LARGEST_COEFFICIENT = 6
HIGHEST_ELEMENT = 12


def minimal_solutions(coefficients):
    """How many minimal solutions there are, then the numbers of each one, in lexicographic order."""
    if not coefficients_allowed(coefficients):
        return [OUTSIDE_LIMITS]
    vectors = minimal_vectors(coefficients)
    answer = [len(vectors)]
    for vector in vectors:
        answer.extend(vector)
    return answer


def evaluate(coefficients, x):
    """1 if x is a solution and 0 otherwise, then the value of the linear form."""
    if not coefficients_allowed(coefficients) or not vector_allowed(coefficients, x):
        return [OUTSIDE_LIMITS]
    value = form_value(coefficients, x)
    return [1 if value == 0 else 0, value]


def coefficients_allowed(coefficients):
    """Whether the coefficients are within their limits."""
    if not 1 <= len(coefficients) <= MOST_COEFFICIENTS:
        return False
    return all_between(-LARGEST_COEFFICIENT, coefficients, LARGEST_COEFFICIENT)


def vector_allowed(coefficients, x):
    """Whether x is within its limits beside these coefficients."""
    return len(x) == len(coefficients) and all_between(0, x, HIGHEST_ELEMENT)


def all_between(lowest, numbers, highest):
    """Whether no number is below the lowest or above the highest allowed one."""
    return all([lowest <= number <= highest for number in numbers])


def minimal_vectors(coefficients):
    """The minimal solutions as a list of vectors, in lexicographic order."""
    found = []
    for vector in vectors_up_to(highest_values(coefficients)):
        if not any(vector) or form_value(coefficients, vector) != 0:
            continue
        # A vector comes behind all that it contains, so looking back at what is found is enough.
        if not contains_one_of(vector, found):
            found.append(vector)
    return found


def highest_values(coefficients):
    """For each place, a value that no minimal solution exceeds there."""
    largest = max([abs(coefficient) for coefficient in coefficients])
    # Where the coefficient is 0, a single 1 is a solution by itself, so nothing above it is minimal.
    return [1 if coefficient == 0 else largest for coefficient in coefficients]


def vectors_up_to(highest):
    """All vectors from zero up to the highest value of each place, in lexicographic order."""
    vectors = [[]]
    for limit in highest:
        longer = []
        for vector in vectors:
            for value in range(limit + 1):
                longer.append(vector + [value])
        vectors = longer
    return vectors


def form_value(coefficients, vector):
    """The value of the linear form at a vector."""
    return sum([coefficient * value for coefficient, value in zip(coefficients, vector)])


def contains_one_of(vector, others):
    """Whether at least one of the others is contained in the vector."""
    for other in others:
        if is_contained(other, vector):
            return True
    return False


def is_contained(inner, outer):
    """Whether each value of the inner vector is at most the one of the outer vector in its place."""
    return all([low <= high for low, high in zip(inner, outer)])
