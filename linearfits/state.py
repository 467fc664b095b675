"""A model's state, and the operations that change or show it."""

from linearfits.fits import fit_of
from linearfits.limits import LARGEST_ENTRY, LARGEST_NUMBER, MOST_COLUMNS, MOST_ROWS, all_within
from linearfits.limits import NOT_THERE, OUT_OF_RANGE, ROWS_FULL


class Model:
    """The columns' number and terms, and the rows; no columns until create."""

    def __init__(self):
        self.begin(0)

    def begin(self, column_count):
        self.column_count = column_count
        self.terms = list(range(column_count))
        self.rows = []
        self.responses = []

    def is_created(self):
        return self.column_count > 0

    def has_row(self, place):
        return 0 <= place < len(self.rows)

    def term_count(self):
        return self.terms[-1] + 1

    def fits_columns(self, vector):
        return len(vector) == self.column_count and all_within(vector, LARGEST_ENTRY)

    def fits_terms(self, terms):
        if len(terms) != self.column_count or terms[0] != 0:
            return False
        steps = [after - before for before, after in zip(terms, terms[1:])]
        return all([step in (0, 1) for step in steps])

    def fit(self):
        return fit_of(self.column_count, self.rows, self.responses)

    def fit_without(self, place):
        """The fit to all rows but one."""
        rows = self.rows[:place] + self.rows[place + 1:]
        responses = self.responses[:place] + self.responses[place + 1:]
        return fit_of(self.column_count, rows, responses)


def is_response(response):
    return abs(response) <= LARGEST_NUMBER


def create(model, arguments):
    column_count = arguments[0]
    if column_count < 1 or column_count > MOST_COLUMNS:
        return [OUT_OF_RANGE]
    model.begin(column_count)
    return [0]


def add_row(model, arguments):
    response = arguments[0]
    row = arguments[1]
    if not is_response(response) or not model.fits_columns(row):
        return [OUT_OF_RANGE]
    if len(model.rows) >= MOST_ROWS:
        return [ROWS_FULL]
    model.rows.append(row)
    model.responses.append(response)
    return [len(model.rows)]


def remove_row(model, arguments):
    place = arguments[0]
    if not model.has_row(place):
        return [NOT_THERE]
    model.rows.pop(place)
    model.responses.pop(place)
    return [len(model.rows)]


def set_response(model, arguments):
    place = arguments[0]
    response = arguments[1]
    if not model.has_row(place):
        return [NOT_THERE]
    if not is_response(response):
        return [OUT_OF_RANGE]
    previous = model.responses[place]
    model.responses[place] = response
    return [previous]


def set_terms(model, arguments):
    terms = arguments[0]
    if not model.fits_terms(terms):
        return [OUT_OF_RANGE]
    model.terms = terms
    return [model.term_count()]


def clear(model, arguments):
    row_count = len(model.rows)
    model.rows = []
    model.responses = []
    return [row_count]


def get_row(model, arguments):
    place = arguments[0]
    if not model.has_row(place):
        return [NOT_THERE]
    return [model.responses[place]] + model.rows[place]


def summary(model, arguments):
    return [model.column_count, len(model.rows), model.term_count()]


STATE_OPERATIONS = {
    0: create,
    1: add_row,
    2: remove_row,
    3: set_response,
    4: set_terms,
    5: clear,
    6: get_row,
    25: summary,
}
