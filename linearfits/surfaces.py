"""The stationary point of a quadratic surface."""

from linearfits.exact import determinant, lowest_terms, solved
from linearfits.limits import LARGEST_NUMBER, MOST_VARIABLES, NO_RESULT, OUT_OF_RANGE, all_within

MINIMUM = 0
MAXIMUM = 1
SADDLE = 2


def is_surface(variables, constant, linear, quadratic):
    if variables < 1 or variables > MOST_VARIABLES:
        return False
    if len(linear) != variables or len(quadratic) != variables * (variables + 1) // 2:
        return False
    return all_within([constant] + linear + quadratic, LARGEST_NUMBER)


def hessian(variables, quadratic):
    matrix = [[0] * variables for place in range(variables)]
    place = 0
    for first in range(variables):
        for second in range(first, variables):
            # On the diagonal both lines meet, and the coefficient counts twice.
            matrix[first][second] += quadratic[place]
            matrix[second][first] += quadratic[place]
            place += 1
    return matrix


def leading_minors(matrix):
    return [determinant([row[:size] for row in matrix[:size]])
            for size in range(1, len(matrix) + 1)]


def kind_of(minors):
    if all([minor > 0 for minor in minors]):
        return MINIMUM
    if all([minor > 0 for minor in minors[1::2]]) and all([minor < 0 for minor in minors[::2]]):
        return MAXIMUM
    return SADDLE


def stationary(model, arguments):
    variables = arguments[0]
    constant = arguments[1]
    linear = arguments[2]
    quadratic = arguments[3]
    if not is_surface(variables, constant, linear, quadratic):
        return [OUT_OF_RANGE]
    matrix = hessian(variables, quadratic)
    minors = leading_minors(matrix)
    if minors[-1] == 0:
        return [NO_RESULT]
    point = solved(matrix, [-slope for slope in linear])
    # At this point the quadratic part is minus half of the linear one.
    share = point.times(linear)
    value = lowest_terms(2 * constant * share[1] + share[0], 2 * share[1])
    return [kind_of(minors)] + point.fractions() + value


SURFACE_OPERATIONS = {24: stationary}
