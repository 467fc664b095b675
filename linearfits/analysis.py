"""The operations that take sums of squares apart: by terms, and by equal rows."""

from linearfits.exact import difference, quotient
from linearfits.limits import NO_RESULT, NOT_THERE


def gained(smaller, larger):
    """What further columns explain: degrees of freedom and a sum of squares."""
    degrees = larger.rank - smaller.rank
    return [degrees] + difference(smaller.residual_sum(), larger.residual_sum())


def columns_before(terms, term):
    return [column for column, own in enumerate(terms) if own < term]


def columns_without(terms, term):
    return [column for column, own in enumerate(terms) if own != term]


def sequential(model, arguments):
    fit = model.fit()
    told = [model.term_count()]
    smaller = fit.part([])
    for term in range(model.term_count()):
        larger = fit.part(columns_before(model.terms, term + 1))
        told.extend(gained(smaller, larger))
        smaller = larger
    return told


def marginal_sum(model, fit, term):
    return gained(fit.part(columns_without(model.terms, term)), fit)


def marginal(model, arguments):
    fit = model.fit()
    told = [model.term_count()]
    for term in range(model.term_count()):
        told.extend(marginal_sum(model, fit, term))
    return told


def f_ratio(model, arguments):
    term = arguments[0]
    if term >= model.term_count():
        return [NOT_THERE]
    fit = model.fit()
    explained = marginal_sum(model, fit, term)
    degrees = explained[0]
    variance = fit.variance()
    if degrees == 0 or variance is None or variance[0] == 0:
        return [NO_RESULT]
    mean = quotient(explained[1:], [degrees, 1])
    return [0] + quotient(mean, variance)


def response_groups(model):
    """The responses of each group of rows with equal entries."""
    groups = {}
    for row, response in zip(model.rows, model.responses):
        groups.setdefault(tuple(row), []).append(response)
    return list(groups.values())


def pure_error(groups, response_squares):
    # The squared differences from a mean add up to the squares less what the
    # mean itself makes up of them.
    rest = [response_squares, 1]
    for group in groups:
        rest = difference(rest, [sum(group) ** 2, len(group)])
    return rest


def lack_of_fit(model, arguments):
    fit = model.fit()
    groups = response_groups(model)
    pure = pure_error(groups, fit.response_squares)
    pure_degrees = len(model.rows) - len(groups)
    lack = difference(fit.residual_sum(), pure)
    return [fit.freedom - pure_degrees] + lack + [pure_degrees] + pure


ANALYSIS_OPERATIONS = {
    17: sequential,
    18: marginal,
    19: f_ratio,
    20: lack_of_fit,
}
