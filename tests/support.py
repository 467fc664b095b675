"""What the tests share: writing calls as a list and taking answers apart."""

import unittest

from linearfits.models import answers

LARGE = 4294967295
LEAST = -2147483648
MOST = 2147483647

NUMBERS = {
    "create": 0, "add_row": 1, "remove_row": 2, "set_response": 3,
    "set_terms": 4, "clear": 5, "get_row": 6, "rank": 7, "coefficients": 8,
    "estimate": 9, "covariance": 10, "squared_ratio": 11, "fitted": 12,
    "leverage": 13, "deleted": 14, "residual_sum": 15,
    "variance_estimate": 16, "sequential": 17, "marginal": 18, "f_ratio": 19,
    "lack_of_fit": 20, "predict": 21, "lost_value": 22,
    "normal_equations": 23, "stationary": 24, "summary": 25,
}


def written(calls):
    """Calls such as ("add_row", 1, [1, 0]) as one list of whole numbers."""
    flat = []
    for name, *arguments in calls:
        flat.append(NUMBERS[name])
        for argument in arguments:
            if isinstance(argument, list):
                flat.append(len(argument))
                flat.extend(argument)
            else:
                flat.append(argument)
    return flat


def parted(told):
    """The answers, each as a list, from the list that tells their lengths."""
    found = []
    place = 0
    while place < len(told):
        behind = place + 1 + told[place]
        if behind > len(told):
            raise AssertionError("the last answer is cut off")
        found.append(told[place + 1:behind])
        place = behind
    return found


def run(*calls):
    """One answer for each call on one new model."""
    found = parted(answers(written(calls)))
    if len(found) != len(calls):
        raise AssertionError(f"{len(calls)} calls, {len(found)} answers")
    return found


def last(*calls):
    return run(*calls)[-1]


def built(width, rows, responses):
    """The calls that make a model with these rows."""
    calls = [("create", width)]
    for row, response in zip(rows, responses):
        calls.append(("add_row", response, list(row)))
    return calls


LINE = built(2, [[1, 0], [1, 1], [1, 2], [1, 1]], [1, 3, 4, 4])
# Two groups with a common mean: the first column is the sum of the others.
GROUPS = built(3, [[1, 1, 0], [1, 1, 0], [1, 0, 1], [1, 0, 1], [1, 0, 1]],
               [1, 2, 4, 6, 9])
EMPTY = [("create", 3)]


class FitCase(unittest.TestCase):
    def answers_to(self, model, *calls):
        """The answers, after it is seen that the calls leave the model alone."""
        found = run(*model, *calls, *calls)[len(model):]
        self.assertEqual(found[:len(calls)], found[len(calls):])
        return found[:len(calls)]

    def check(self, model, *pairs):
        found = self.answers_to(model, *[call for call, expected in pairs])
        for (call, expected), answer in zip(pairs, found):
            self.assertEqual(answer, expected, call)

    def check_stands(self, model, call, code):
        """The call is refused, and the model stands behind it as it was."""
        look = [("get_row", index) for index in range(25)]
        look.extend([("summary",), ("sequential",), ("rank",), ("normal_equations",)])
        before = run(*model, *look)[len(model):]
        found = run(*model, call, *look)[len(model):]
        self.assertEqual(found[0], [code], call)
        self.assertEqual(found[1:], before, call)

    def check_no_such_row(self, name):
        """Indexes behind the last row are refused, also where there is no row."""
        for index in (4, 5, 24, 2147483648, LARGE):
            self.check_stands(LINE, (name, index), -2)
        for index in (0, 1, LARGE):
            self.check_stands(EMPTY, (name, index), -2)
        self.check_stands(built(1, [[1]] * 24, range(24)), (name, 24), -2)

    def check_vector_ranges(self, call_with):
        """Vectors of wrong length or with wrong numbers are refused."""
        for length in (0, 1, 3, 60):
            self.check_stands(LINE, call_with([0] * length), -22)
        for number in (1001, -1001, MOST, LEAST):
            self.check_stands(LINE, call_with([number, 0]), -22)
            self.check_stands(LINE, call_with([0, number]), -22)
        for length in (0, 2, 4, 60):
            self.check_stands(EMPTY, call_with([0] * length), -22)
        # The range is checked before whether the vector is estimable.
        self.check_stands(EMPTY, call_with([1001, 0, 0]), -22)
