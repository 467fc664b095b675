"""What the tests share: writing calls as a list and taking answers apart."""

from linearfits.models import answers

NUMBERS = {
    "create": 0, "add_row": 1, "remove_row": 2, "set_response": 3,
    "set_terms": 4, "clear": 5, "get_row": 6, "rank": 7, "coefficients": 8,
    "estimate": 9, "covariance": 10, "squared_ratio": 11, "fitted": 12,
    "leverage": 13, "deleted": 14, "residual_sum": 15,
    "variance_estimate": 16, "sequential": 17, "marginal": 18, "f_ratio": 19,
    "lack_of_fit": 20, "predict": 21, "lost_value": 22,
    "normal_equations": 23, "stationary": 24, "summary": 25,
}


def written(calls):
    """Calls such as ("add_row", 1, [1, 0]) as one list of whole numbers."""
    flat = []
    for name, *arguments in calls:
        flat.append(NUMBERS[name])
        for argument in arguments:
            if isinstance(argument, list):
                flat.append(len(argument))
                flat.extend(argument)
            else:
                flat.append(argument)
    return flat


def parted(told):
    """The answers, each as a list, from the list that tells their lengths."""
    found = []
    place = 0
    while place < len(told):
        behind = place + 1 + told[place]
        if behind > len(told):
            raise AssertionError("the last answer is cut off")
        found.append(told[place + 1:behind])
        place = behind
    return found


def run(*calls):
    """One answer for each call on one new model."""
    found = parted(answers(written(calls)))
    if len(found) != len(calls):
        raise AssertionError(f"{len(calls)} calls, {len(found)} answers")
    return found


def last(*calls):
    return run(*calls)[-1]


def built(width, rows, responses):
    """The calls that make a model with these rows."""
    calls = [("create", width)]
    for row, response in zip(rows, responses):
        calls.append(("add_row", response, list(row)))
    return calls

