"""The document's own session."""

import unittest

from support import last, run

SESSION = [
    (("create", 2), [0]),
    (("add_row", 1, [1, 0]), [1]),
    (("add_row", 3, [1, 1]), [2]),
    (("add_row", 4, [1, 2]), [3]),
    (("add_row", 4, [1, 1]), [4]),
    (("rank",), [2, 2]),
    (("coefficients",), [2, 3, 2, 3, 2]),
    (("estimate", [0, 1]), [0, 3, 2, 1, 2]),
    (("squared_ratio", [0, 1]), [0, 6, 1]),
    (("fitted", 1), [0, 3, 1, 0, 1]),
    (("leverage", 0), [0, 3, 4]),
    (("deleted", 0), [0, -2, 1]),
    (("residual_sum",), [2, 3, 2]),
    (("variance_estimate",), [0, 3, 4]),
    (("sequential",), [2, 1, 36, 1, 1, 9, 2]),
    (("marginal",), [2, 1, 3, 1, 1, 9, 2]),
    (("f_ratio", 1), [0, 6, 1]),
    (("lack_of_fit",), [1, 1, 1, 1, 1, 2]),
    (("predict", [1, 2]), [0, 9, 2, 7, 4]),
    (("lost_value", 0), [0, 3, 1]),
    (("normal_equations",), [2, 4, 4, 12, 4, 6, 15]),
    (("set_terms", [0, 0]), [1]),
    (("sequential",), [1, 2, 81, 2]),
    (("set_terms", [1, 1]), [-22]),
    (("stationary", 2, 5, [-2, -4], [1, 0, 1]), [0, 1, 1, 2, 1, 0, 1]),
    (("stationary", 2, 0, [0, 0], [0, 1, 0]), [2, 0, 1, 0, 1, 0, 1]),
    (("stationary", 1, 0, [1], [0]), [-33]),
]


class Examples(unittest.TestCase):
    def test_the_session(self):
        found = run(*[call for call, expected in SESSION])
        for (call, expected), answer in zip(SESSION, found):
            self.assertEqual(answer, expected, call)

    def test_each_call_right_behind_those_that_change_the_state(self):
        changes = []
        for call, expected in SESSION:
            with self.subTest(call=call):
                self.assertEqual(last(*changes, call), expected)
            if call[0] in ("create", "add_row", "set_terms"):
                changes.append(call)


if __name__ == "__main__":
    unittest.main()
