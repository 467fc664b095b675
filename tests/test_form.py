"""The form of what is handed in and answered."""

import unittest

from linearfits.models import answers
from support import EMPTY, GROUPS, LINE, last, run, written

# Calls that leave a model of LINE as it is; their lists have unlike lengths, so
# that a call that is read wrongly spoils those behind it.
EVERY_CALL = [
    ("remove_row", 9), ("set_response", 9, 7), ("set_terms", [0, 1]),
    ("get_row", 0), ("rank",), ("coefficients",), ("estimate", [0, 1]),
    ("covariance", [0, 1], [1, 0]), ("squared_ratio", [0, 1]), ("fitted", 0),
    ("leverage", 7), ("deleted", 7), ("residual_sum",),
    ("variance_estimate",), ("sequential",), ("marginal",), ("f_ratio", 7),
    ("lack_of_fit",), ("predict", [7, 5, 3]), ("lost_value", 7),
    ("normal_equations",), ("stationary", 7, -5, [0, 1, 2, 3], [5, 5]),
    ("stationary", 4294967295, -2147483648, [], []), ("summary",),
    ("leverage", 0), ("deleted", 0), ("f_ratio", 0), ("predict", [0, 1]),
    ("lost_value", 3), ("stationary", 1, 5, [4], [2]),
    ("stationary", 2, 5, [-2, -4], [1, 0, 1]),
    ("stationary", 3, -5, [1, 2, 4], [1, 3, 5, 7, 11, 13]),
]

# What a call may answer on LINE, by its number: how many numbers.
LENGTHS = {
    "rank": 2, "coefficients": 5, "estimate": 5, "covariance": 3,
    "squared_ratio": 3, "fitted": 5, "leverage": 3, "deleted": 3,
    "residual_sum": 3, "variance_estimate": 3, "sequential": 7, "marginal": 7,
    "f_ratio": 3, "lack_of_fit": 6, "predict": 5, "lost_value": 3,
    "normal_equations": 7, "summary": 3, "get_row": 3, "set_terms": 1,
}


class Form(unittest.TestCase):
    def test_the_answers_stand_behind_their_lengths(self):
        calls = [("create", 2), ("add_row", -5, [3, 4]), ("get_row", 0),
                 ("get_row", 1), ("rank",), ("coefficients",), ("clear",)]
        expected = [1, 0, 1, 1, 3, -5, 3, 4, 1, -2, 2, 1, 0, 1, -33, 1, 1]
        self.assertEqual(answers(written(calls)), expected)

    def test_the_calls_as_they_are_numbered(self):
        calls = [0, 2, 1, 1, 2, 1, 0, 1, 3, 2, 1, 1, 1, 4, 2, 1, 2,
                 3, 0, 6, 6, 0, 4, 2, 0, 0, 7, 8, 9, 2, 0, 1,
                 10, 2, 1, 0, 2, 0, 1, 11, 2, 0, 1, 12, 0, 2, 0, 5, 6, 0]
        expected = [1, 0, 1, 1, 1, 2, 1, 3,
                    1, 1, 3, 6, 1, 0, 1, 1, 2, 2, 1,
                    5, 2, 16, 3, -1, 1, 5, 0, -1, 1, 1, 2,
                    3, 0, -1, 2, 3, 0, 3, 4, 5, 0, 16, 3, 2, 3,
                    1, 2, 1, 2, 1, -2]
        self.assertEqual(answers(calls), expected)

    def test_an_error_is_its_code_alone(self):
        self.assertEqual(answers([7]), [1, -11])
        self.assertEqual(answers([0, 0]), [1, -22])
        self.assertEqual(answers([0, 1, 6, 0]), [1, 0, 1, -2])

    def test_all_numbers_are_plain_whole_numbers(self):
        told = answers(written(LINE + EVERY_CALL))
        self.assertIs(type(told), list)
        for number in told:
            self.assertIs(type(number), int)

    def test_the_list_handed_in_stays_as_it_was(self):
        calls = written(LINE + EVERY_CALL + [
            ("set_response", 0, 9), ("set_terms", [0, 0]), ("remove_row", 1), ("clear",)])
        before = list(calls)
        answers(calls)
        self.assertEqual(calls, before)

    def test_the_answers_are_a_list_of_their_own(self):
        calls = written(LINE)
        told = answers(calls)
        expected = list(told)
        told.append(5)
        self.assertEqual(answers(calls), expected)

    def test_a_second_time_answers_the_same(self):
        calls = written(LINE + EVERY_CALL)
        first = answers(calls)
        self.assertEqual(answers(calls), first)
        answers(written([("create", 8), ("add_row", 5, [1] * 8)]))
        self.assertEqual(answers(calls), first)

    def test_nothing_is_kept_from_one_list_to_another(self):
        run(*LINE)
        self.assertEqual(run(("rank",)), [[-11]])
        self.assertEqual(run(("create", 2), ("get_row", 0), ("clear",)), [[0], [-2], [0]])

    def test_each_call_leaves_the_others_as_they_are(self):
        for call in EVERY_CALL:
            with self.subTest(call=call):
                found = run(*LINE, call, ("rank",), ("fitted", 1), ("marginal",), ("get_row", 3))
                self.assertEqual(found[-4:], [[2, 2], [0, 3, 1, 0, 1], [2, 1, 3, 1, 1, 9, 2],
                                              [4, 1, 1]])

    def test_each_call_is_an_error_or_has_its_length(self):
        for model in (LINE, GROUPS, EMPTY):
            found = run(*model, *EVERY_CALL)[len(model):]
            for call, answer in zip(EVERY_CALL, found):
                error = len(answer) == 1 and answer[0] in (-2, -22, -33)
                if call[0] == "stationary":
                    self.assertTrue(error or len(answer) == 3 + 2 * call[1], call)
                elif model == LINE:
                    self.assertTrue(error or len(answer) == LENGTHS[call[0]], call)

    def test_the_later_calls_as_they_are_numbered(self):
        calls = [0, 2, 1, 1, 2, 1, 0, 1, 3, 2, 1, 1, 1, 4, 2, 1, 2, 1, 4, 2, 1, 1,
                 13, 0, 14, 0, 15, 16, 17, 18, 19, 1, 20, 21, 2, 1, 2, 22, 0, 23,
                 24, 2, 5, 2, -2, -4, 3, 1, 0, 1, 25, 13, 4, 19, 2, 24, 1, 0, 1, 1, 1, 0]
        expected = [1, 0, 1, 1, 1, 2, 1, 3, 1, 4,
                    3, 0, 3, 4, 3, 0, -2, 1, 3, 2, 3, 2, 3, 0, 3, 4,
                    7, 2, 1, 36, 1, 1, 9, 2, 7, 2, 1, 3, 1, 1, 9, 2, 3, 0, 6, 1,
                    6, 1, 1, 1, 1, 1, 2, 5, 0, 9, 2, 7, 4, 3, 0, 3, 1,
                    7, 2, 4, 4, 12, 4, 6, 15, 7, 0, 1, 1, 2, 1, 0, 1,
                    3, 2, 4, 2, 1, -2, 1, -2, 1, -33]
        self.assertEqual(answers(calls), expected)

    def test_the_longest_answer(self):
        told = answers([0, 8, 23])
        self.assertEqual(told, [1, 0, 73, 8] + [0] * 72)

    def test_each_call_on_an_instance_that_is_not_usable(self):
        calls = EVERY_CALL + [
            ("add_row", 5, [1, 2]), ("clear",),
            # -11 comes before every other error of the call.
            ("add_row", 1000001, []), ("set_response", 4294967295, -2147483648),
            ("set_terms", [1]), ("estimate", []), ("covariance", [], [1] * 60),
            ("squared_ratio", [1001]), ("fitted", 0), ("get_row", 4294967295),
            ("leverage", 0), ("deleted", 4294967295), ("f_ratio", 4294967295),
            ("predict", []), ("predict", [1001] * 60), ("lost_value", 0),
            ("stationary", 1, 0, [1], [0]), ("stationary", 1, 1000001, [], [0] * 60)]
        for call in calls:
            with self.subTest(call=call):
                self.assertEqual(run(call), [[-11]])
                self.assertEqual(last(("create", 0), call), [-11])
                self.assertEqual(last(("create", 9), call), [-11])
                found = run(call, ("create", 3), ("rank",))
                self.assertEqual(found, [[-11], [0], [0, 0]])

    def test_two_hundred_calls(self):
        calls = [("create", 1)] + [("rank",)] * 199
        self.assertEqual(run(*calls), [[0]] + [[0, 0]] * 199)


if __name__ == "__main__":
    unittest.main()
