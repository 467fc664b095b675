"""The calls on a model: each one reaches its operation by its number."""

from linearfits.analysis import ANALYSIS_OPERATIONS
from linearfits.estimates import ESTIMATE_OPERATIONS
from linearfits.limits import NOT_CREATED
from linearfits.reading import read_calls
from linearfits.state import STATE_OPERATIONS, Model
from linearfits.surfaces import SURFACE_OPERATIONS


def operation_of(number):
    if number in STATE_OPERATIONS:
        return STATE_OPERATIONS[number]
    if number in ESTIMATE_OPERATIONS:
        return ESTIMATE_OPERATIONS[number]
    if number in ANALYSIS_OPERATIONS:
        return ANALYSIS_OPERATIONS[number]
    return SURFACE_OPERATIONS[number]


def answer_to(model, number, arguments):
    if number != 0 and not model.is_created():
        return [NOT_CREATED]
    operation = operation_of(number)
    return operation(model, arguments)


def answers(calls):
    """What the calls answer on a new model: for each, how many numbers, then these."""
    model = Model()
    told = []
    for call in read_calls(calls):
        answer = answer_to(model, call[0], call[1])
        told.append(len(answer))
        told.extend(answer)
    return told
