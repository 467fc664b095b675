"""The operations that ask about the fit: its size, its estimates, its rows."""

from linearfits.exact import difference, lowest_terms, quotient
from linearfits.limits import NO_RESULT, NOT_THERE, OUT_OF_RANGE


def rank(model, arguments):
    fit = model.fit()
    return [fit.rank, fit.freedom]


def coefficients(model, arguments):
    fit = model.fit()
    if fit.rank < model.column_count:
        return [NO_RESULT]
    return [model.column_count] + fit.solution.fractions()


def told_estimate(model, vector, added):
    """What estimate answers, with a number added to the variance factor."""
    if not model.fits_columns(vector):
        return [OUT_OF_RANGE]
    fit = model.fit()
    weights = fit.weights(vector)
    if weights is None:
        return [NO_RESULT]
    factor = weights.times(vector)
    raised = lowest_terms(factor[0] + added * factor[1], factor[1])
    return [0] + fit.estimate(vector) + raised


def estimate(model, arguments):
    return told_estimate(model, arguments[0], 0)


def predict(model, arguments):
    return told_estimate(model, arguments[0], 1)


def covariance(model, arguments):
    first = arguments[0]
    second = arguments[1]
    if not model.fits_columns(first) or not model.fits_columns(second):
        return [OUT_OF_RANGE]
    fit = model.fit()
    weights = fit.weights(second)
    if weights is None or fit.weights(first) is None:
        return [NO_RESULT]
    return [0] + weights.times(first)


def squared_ratio(model, arguments):
    vector = arguments[0]
    if not model.fits_columns(vector):
        return [OUT_OF_RANGE]
    fit = model.fit()
    weights = fit.weights(vector)
    variance = fit.variance()
    if weights is None or variance is None or variance[0] == 0:
        return [NO_RESULT]
    factor = weights.times(vector)
    if factor[0] == 0:
        return [NO_RESULT]
    value = fit.estimate(vector)
    square = [value[0] ** 2, value[1] ** 2]
    return [0] + quotient(quotient(square, variance), factor)


def residual(model, fit, place):
    value = fit.estimate(model.rows[place])
    return difference([model.responses[place], 1], value)


def fitted(model, arguments):
    place = arguments[0]
    if not model.has_row(place):
        return [NOT_THERE]
    fit = model.fit()
    return [0] + fit.estimate(model.rows[place]) + residual(model, fit, place)


def leverage(model, arguments):
    place = arguments[0]
    if not model.has_row(place):
        return [NOT_THERE]
    return [0] + model.fit().leverage(model.rows[place])


def deleted(model, arguments):
    place = arguments[0]
    if not model.has_row(place):
        return [NOT_THERE]
    fit = model.fit()
    share = difference([1, 1], fit.leverage(model.rows[place]))
    if share[0] == 0:
        return [NO_RESULT]
    return [0] + quotient(residual(model, fit, place), share)


def lost_value(model, arguments):
    place = arguments[0]
    if not model.has_row(place):
        return [NOT_THERE]
    row = model.rows[place]
    fit = model.fit_without(place)
    if fit.weights(row) is None:
        return [NO_RESULT]
    return [0] + fit.estimate(row)


def residual_sum(model, arguments):
    fit = model.fit()
    return [fit.freedom] + fit.residual_sum()


def variance_estimate(model, arguments):
    variance = model.fit().variance()
    if variance is None:
        return [NO_RESULT]
    return [0] + variance


def normal_equations(model, arguments):
    fit = model.fit()
    told = [model.column_count]
    for products, moment in zip(fit.products, fit.moments):
        told.extend(products)
        told.append(moment)
    return told


ESTIMATE_OPERATIONS = {
    7: rank,
    8: coefficients,
    9: estimate,
    10: covariance,
    11: squared_ratio,
    12: fitted,
    13: leverage,
    14: deleted,
    15: residual_sum,
    16: variance_estimate,
    21: predict,
    22: lost_value,
    23: normal_equations,
}
