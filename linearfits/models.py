"""A model's state, the operations on it, and the calls that reach them."""

from linearfits.exact import lowest_terms
from linearfits.fits import Fit
from linearfits.reading import read_calls

NO_SUCH_ROW = -2
NOT_CREATED = -11
OUT_OF_RANGE = -22
ROWS_FULL = -28
NO_RESULT = -33

MOST_COLUMNS = 8
MOST_ROWS = 24
LARGEST_ENTRY = 1000
LARGEST_RESPONSE = 1000000


class Model:
    """The columns' number and terms, and the rows; no columns until create."""

    def __init__(self):
        self.begin(0)

    def begin(self, column_count):
        self.column_count = column_count
        self.terms = list(range(column_count))
        self.rows = []
        self.responses = []

    def is_created(self):
        return self.column_count > 0

    def has_row(self, place):
        return 0 <= place < len(self.rows)

    def fits_columns(self, vector):
        if len(vector) != self.column_count:
            return False
        return all([abs(entry) <= LARGEST_ENTRY for entry in vector])

    def fits_terms(self, terms):
        if len(terms) != self.column_count or terms[0] != 0:
            return False
        steps = [after - before for before, after in zip(terms, terms[1:])]
        return all([step in (0, 1) for step in steps])

    def fit(self):
        return Fit(self.column_count, self.rows, self.responses)


def is_response(response):
    return abs(response) <= LARGEST_RESPONSE


def create(model, arguments):
    column_count = arguments[0]
    if column_count < 1 or column_count > MOST_COLUMNS:
        return [OUT_OF_RANGE]
    model.begin(column_count)
    return [0]


def add_row(model, arguments):
    response = arguments[0]
    row = arguments[1]
    if not is_response(response) or not model.fits_columns(row):
        return [OUT_OF_RANGE]
    if len(model.rows) >= MOST_ROWS:
        return [ROWS_FULL]
    model.rows.append(row)
    model.responses.append(response)
    return [len(model.rows)]


def remove_row(model, arguments):
    place = arguments[0]
    if not model.has_row(place):
        return [NO_SUCH_ROW]
    model.rows.pop(place)
    model.responses.pop(place)
    return [len(model.rows)]


def set_response(model, arguments):
    place = arguments[0]
    response = arguments[1]
    if not model.has_row(place):
        return [NO_SUCH_ROW]
    if not is_response(response):
        return [OUT_OF_RANGE]
    previous = model.responses[place]
    model.responses[place] = response
    return [previous]


def set_terms(model, arguments):
    terms = arguments[0]
    if not model.fits_terms(terms):
        return [OUT_OF_RANGE]
    model.terms = terms
    return [terms[-1] + 1]


def clear(model, arguments):
    row_count = len(model.rows)
    model.rows = []
    model.responses = []
    return [row_count]


def get_row(model, arguments):
    place = arguments[0]
    if not model.has_row(place):
        return [NO_SUCH_ROW]
    return [model.responses[place]] + model.rows[place]


def rank(model, arguments):
    fit = model.fit()
    return [fit.rank, fit.freedom]


def coefficients(model, arguments):
    fit = model.fit()
    if fit.rank < model.column_count:
        return [NO_RESULT]
    return [model.column_count] + fit.solution.fractions()


def estimate(model, arguments):
    vector = arguments[0]
    if not model.fits_columns(vector):
        return [OUT_OF_RANGE]
    fit = model.fit()
    weights = fit.weights(vector)
    if weights is None:
        return [NO_RESULT]
    return [0] + fit.estimate(vector) + weights.times(vector)


def covariance(model, arguments):
    first = arguments[0]
    second = arguments[1]
    if not model.fits_columns(first) or not model.fits_columns(second):
        return [OUT_OF_RANGE]
    fit = model.fit()
    weights = fit.weights(second)
    if weights is None or fit.weights(first) is None:
        return [NO_RESULT]
    return [0] + weights.times(first)


def squared_ratio(model, arguments):
    vector = arguments[0]
    if not model.fits_columns(vector):
        return [OUT_OF_RANGE]
    fit = model.fit()
    weights = fit.weights(vector)
    if weights is None:
        return [NO_RESULT]
    value = fit.estimate(vector)
    factor = weights.times(vector)
    residual = fit.residual_sum()
    if fit.freedom == 0 or residual[0] == 0 or factor[0] == 0:
        return [NO_RESULT]
    numerator = value[0] ** 2 * fit.freedom * residual[1] * factor[1]
    denominator = value[1] ** 2 * residual[0] * factor[0]
    return [0] + lowest_terms(numerator, denominator)


def fitted(model, arguments):
    place = arguments[0]
    if not model.has_row(place):
        return [NO_SUCH_ROW]
    value = model.fit().estimate(model.rows[place])
    missing = model.responses[place] * value[1] - value[0]
    return [0] + value + lowest_terms(missing, value[1])


OPERATIONS = {
    0: create,
    1: add_row,
    2: remove_row,
    3: set_response,
    4: set_terms,
    5: clear,
    6: get_row,
    7: rank,
    8: coefficients,
    9: estimate,
    10: covariance,
    11: squared_ratio,
    12: fitted,
}


def answer_to(model, number, arguments):
    if number != 0 and not model.is_created():
        return [NOT_CREATED]
    operation = OPERATIONS.get(number)
    if operation is None:
        return [NO_RESULT]
    return operation(model, arguments)


def answers(calls):
    """What the calls answer on a new model: for each, how many numbers, then these."""
    model = Model()
    told = []
    for call in read_calls(calls):
        answer = answer_to(model, call[0], call[1])
        told.append(len(answer))
        told.extend(answer)
    return told
