"""The form of what is handed in and answered."""

import unittest

from linearfits.models import answers
from support import last, run, written

LINE = [("create", 2), ("add_row", 1, [1, 0]), ("add_row", 3, [1, 1]),
        ("add_row", 4, [1, 2]), ("add_row", 4, [1, 1])]

# Calls that leave a model of LINE as it is; their lists have unlike lengths, so
# that a call that is read wrongly spoils those behind it.
EVERY_CALL = [
    ("remove_row", 9), ("set_response", 9, 7), ("set_terms", [0, 1]),
    ("get_row", 0), ("rank",), ("coefficients",), ("estimate", [0, 1]),
    ("covariance", [0, 1], [1, 0]), ("squared_ratio", [0, 1]), ("fitted", 0),
    ("leverage", 7), ("deleted", 7), ("residual_sum",),
    ("variance_estimate",), ("sequential",), ("marginal",), ("f_ratio", 7),
    ("lack_of_fit",), ("predict", [7, 5, 3]), ("lost_value", 7),
    ("normal_equations",), ("stationary", 7, -5, [0, 1, 2, 3], [5, 5]),
    ("stationary", 4294967295, -2147483648, [], []), ("summary",),
]


class Form(unittest.TestCase):
    def test_the_answers_stand_behind_their_lengths(self):
        calls = [("create", 2), ("add_row", -5, [3, 4]), ("get_row", 0),
                 ("get_row", 1), ("rank",), ("coefficients",), ("clear",)]
        expected = [1, 0, 1, 1, 3, -5, 3, 4, 1, -2, 2, 1, 0, 1, -33, 1, 1]
        self.assertEqual(answers(written(calls)), expected)

    def test_the_calls_as_they_are_numbered(self):
        calls = [0, 2, 1, 1, 2, 1, 0, 1, 3, 2, 1, 1, 1, 4, 2, 1, 2,
                 3, 0, 6, 6, 0, 4, 2, 0, 0, 7, 8, 9, 2, 0, 1,
                 10, 2, 1, 0, 2, 0, 1, 11, 2, 0, 1, 12, 0, 2, 0, 5, 6, 0]
        expected = [1, 0, 1, 1, 1, 2, 1, 3,
                    1, 1, 3, 6, 1, 0, 1, 1, 2, 2, 1,
                    5, 2, 16, 3, -1, 1, 5, 0, -1, 1, 1, 2,
                    3, 0, -1, 2, 3, 0, 3, 4, 5, 0, 16, 3, 2, 3,
                    1, 2, 1, 2, 1, -2]
        self.assertEqual(answers(calls), expected)

    def test_an_error_is_its_code_alone(self):
        self.assertEqual(answers([7]), [1, -11])
        self.assertEqual(answers([0, 0]), [1, -22])
        self.assertEqual(answers([0, 1, 6, 0]), [1, 0, 1, -2])

    def test_all_numbers_are_plain_whole_numbers(self):
        told = answers(written(LINE + EVERY_CALL))
        self.assertIs(type(told), list)
        for number in told:
            self.assertIs(type(number), int)

    def test_the_list_handed_in_stays_as_it_was(self):
        calls = written(LINE + EVERY_CALL + [
            ("set_response", 0, 9), ("set_terms", [0, 0]), ("remove_row", 1), ("clear",)])
        before = list(calls)
        answers(calls)
        self.assertEqual(calls, before)

    def test_the_answers_are_a_list_of_their_own(self):
        calls = written(LINE)
        told = answers(calls)
        expected = list(told)
        told.append(5)
        self.assertEqual(answers(calls), expected)

    def test_a_second_time_answers_the_same(self):
        calls = written(LINE + EVERY_CALL)
        first = answers(calls)
        self.assertEqual(answers(calls), first)
        answers(written([("create", 8), ("add_row", 5, [1] * 8)]))
        self.assertEqual(answers(calls), first)

    def test_nothing_is_kept_from_one_list_to_another(self):
        run(*LINE)
        self.assertEqual(run(("rank",)), [[-11]])
        self.assertEqual(run(("create", 2), ("get_row", 0), ("clear",)), [[0], [-2], [0]])

    def test_the_calls_to_come_leave_the_others_as_they_are(self):
        for call in EVERY_CALL:
            with self.subTest(call=call):
                found = run(*LINE, call, ("rank",), ("fitted", 1))
                self.assertEqual(found[-2:], [[2, 2], [0, 3, 1, 0, 1]])

    def test_each_call_on_an_instance_that_is_not_usable(self):
        calls = EVERY_CALL + [
            ("add_row", 5, [1, 2]), ("clear",),
            # -11 comes before every other error of the call.
            ("add_row", 1000001, []), ("set_response", 4294967295, -2147483648),
            ("set_terms", [1]), ("estimate", []), ("covariance", [], [1] * 60),
            ("squared_ratio", [1001]), ("fitted", 0), ("get_row", 4294967295)]
        for call in calls:
            with self.subTest(call=call):
                self.assertEqual(run(call), [[-11]])
                self.assertEqual(last(("create", 0), call), [-11])
                self.assertEqual(last(("create", 9), call), [-11])
                found = run(call, ("create", 3), ("rank",))
                self.assertEqual(found, [[-11], [0], [0, 0]])

    def test_two_hundred_calls(self):
        calls = [("create", 1)] + [("rank",)] * 199
        self.assertEqual(run(*calls), [[0]] + [[0, 0]] * 199)


if __name__ == "__main__":
    unittest.main()
