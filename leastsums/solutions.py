"""The operations on one linear equation, and the plain steps that they share.

Each operation answers one list of whole numbers. A refusal is a list of its code alone.
"""

NO_ELEMENT = -2
OUTSIDE_LIMITS = -22
NO_SOLUTION = -33

MOST_COEFFICIENTS = 4
LARGEST_COEFFICIENT = 6
HIGHEST_ELEMENT = 12


def minimal_solutions(coefficients):
    """How many minimal solutions there are, then the numbers of each one, in lexicographic order."""
    if not coefficients_allowed(coefficients):
        return [OUTSIDE_LIMITS]
    vectors = minimal_vectors(coefficients)
    answer = [len(vectors)]
    for vector in vectors:
        answer.extend(vector)
    return answer


def evaluate(coefficients, x):
    """1 if x is a solution and 0 otherwise, then the value of the linear form."""
    if not arguments_allowed(coefficients, x):
        return [OUTSIDE_LIMITS]
    value = form_value(coefficients, x)
    return [1 if value == 0 else 0, value]


def decompose(coefficients, x):
    """How many subtractions the greedy decomposition of x has, then how often each minimal solution is subtracted."""
    refusal = refusal_of_solution(coefficients, x)
    if refusal is not None:
        return [refusal]
    multiplicities = greedy_multiplicities(minimal_vectors(coefficients), x)
    return [sum(multiplicities)] + multiplicities


def count_decompositions(coefficients, x):
    """In how many ways x is a sum of minimal solutions, told apart by their multiplicities alone."""
    refusal = refusal_of_solution(coefficients, x)
    if refusal is not None:
        return [refusal]
    return [ways_to_sum(minimal_vectors(coefficients), x)]


def smallest_with(index, coefficients):
    """The smallest sum of a minimal solution with a value above 0 at the index, then that minimal solution."""
    if not coefficients_allowed(coefficients):
        return [OUTSIDE_LIMITS]
    if index >= len(coefficients):
        return [NO_ELEMENT]
    candidates = [vector for vector in minimal_vectors(coefficients) if vector[index] > 0]
    if not candidates:
        return [NO_SOLUTION]
    # Of several with the same sum min takes the first one, which is the one with the lowest number.
    smallest = min(candidates, key=sum)
    return [sum(smallest)] + smallest


def contained_solutions(coefficients, x):
    """How many minimal solutions are contained in x, then their numbers in increasing order."""
    if not arguments_allowed(coefficients, x):
        return [OUTSIDE_LIMITS]
    vectors = minimal_vectors(coefficients)
    numbers = [number for number, vector in enumerate(vectors) if is_contained(vector, x)]
    return [len(numbers)] + numbers


def refusal_of_solution(coefficients, x):
    """The code that refuses these arguments where x has to be a solution; None if they are as they should be."""
    if not arguments_allowed(coefficients, x):
        return OUTSIDE_LIMITS
    if form_value(coefficients, x) != 0:
        return NO_SOLUTION
    return None


def arguments_allowed(coefficients, x):
    """Whether the coefficients and x are both within their limits."""
    return coefficients_allowed(coefficients) and vector_allowed(coefficients, x)


def coefficients_allowed(coefficients):
    """Whether the coefficients are within their limits."""
    if not 1 <= len(coefficients) <= MOST_COEFFICIENTS:
        return False
    return all_between(-LARGEST_COEFFICIENT, coefficients, LARGEST_COEFFICIENT)


def vector_allowed(coefficients, x):
    """Whether x is within its limits beside these coefficients."""
    return len(x) == len(coefficients) and all_between(0, x, HIGHEST_ELEMENT)


def all_between(lowest, numbers, highest):
    """Whether no number is below the lowest or above the highest allowed one."""
    return all([lowest <= number <= highest for number in numbers])


def minimal_vectors(coefficients):
    """The minimal solutions as a list of vectors, in lexicographic order."""
    found = []
    for vector in vectors_up_to(highest_values(coefficients)):
        if not any(vector) or form_value(coefficients, vector) != 0:
            continue
        # A vector comes behind all that it contains, so looking back at what is found is enough.
        if not contains_one_of(vector, found):
            found.append(vector)
    return found


def highest_values(coefficients):
    """For each place, a value that no minimal solution exceeds there."""
    largest = max([abs(coefficient) for coefficient in coefficients])
    # Where the coefficient is 0, a single 1 is a solution by itself, so nothing above it is minimal.
    return [1 if coefficient == 0 else largest for coefficient in coefficients]


def vectors_up_to(highest):
    """All vectors from zero up to the highest value of each place, in lexicographic order."""
    vectors = [[]]
    for limit in highest:
        longer = []
        for vector in vectors:
            for value in range(limit + 1):
                longer.append(vector + [value])
        vectors = longer
    return vectors


def form_value(coefficients, vector):
    """The value of the linear form at a vector."""
    return sum([coefficient * value for coefficient, value in zip(coefficients, vector)])


def contains_one_of(vector, others):
    """Whether at least one of the others is contained in the vector."""
    for other in others:
        if is_contained(other, vector):
            return True
    return False


def is_contained(inner, outer):
    """Whether each value of the inner vector is at most the one of the outer vector in its place."""
    return all([low <= high for low, high in zip(inner, outer)])


def greedy_multiplicities(vectors, x):
    """How often each vector is subtracted if the first one that is contained in the rest of x always comes next."""
    multiplicities = []
    rest = x
    # What isn't contained in the rest isn't contained in any later one, so no vector has its turn twice.
    for vector in vectors:
        times = times_contained(vector, rest)
        multiplicities.append(times)
        rest = rest_behind(rest, vector, times)
    return multiplicities


def times_contained(vector, rest):
    """How often the vector, which isn't the zero vector, can be subtracted from the rest."""
    return min([high // low for low, high in zip(vector, rest) if low > 0])


def rest_behind(rest, vector, times):
    """What is left of the rest once the vector is subtracted so many times, as a list of its own."""
    return [high - times * low for low, high in zip(vector, rest)]


def ways_to_sum(vectors, x):
    """How many lists of multiplicities for the vectors have the sum x."""
    # For each rest of x that the vectors gone through can leave: the number of lists that leave it.
    ways = {tuple(x): 1}
    for vector in vectors:
        ways = ways_behind(ways, vector)
    return ways.get(tuple([0] * len(x)), 0)


def ways_behind(ways, vector):
    """The rests and their numbers of lists once the vector has been subtracted as often as each list tells."""
    behind = {}
    for rest, lists in ways.items():
        for times in range(times_contained(vector, rest) + 1):
            left = tuple(rest_behind(rest, vector, times))
            behind[left] = behind.get(left, 0) + lists
    return behind
