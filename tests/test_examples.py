"""The document's own session, as far as its calls have been built."""

import unittest

from support import run

SESSION = [
    (("create", 2), [0]),
    (("add_row", 1, [1, 0]), [1]),
    (("add_row", 3, [1, 1]), [2]),
    (("add_row", 4, [1, 2]), [3]),
    (("add_row", 4, [1, 1]), [4]),
    (("rank",), [2, 2]),
    (("coefficients",), [2, 3, 2, 3, 2]),
    (("estimate", [0, 1]), [0, 3, 2, 1, 2]),
    (("squared_ratio", [0, 1]), [0, 6, 1]),
    (("fitted", 1), [0, 3, 1, 0, 1]),
    (("leverage", 0), None),
    (("deleted", 0), None),
    (("residual_sum",), None),
    (("variance_estimate",), None),
    (("sequential",), None),
    (("marginal",), None),
    (("f_ratio", 1), None),
    (("lack_of_fit",), None),
    (("predict", [1, 2]), None),
    (("lost_value", 0), None),
    (("normal_equations",), None),
    (("set_terms", [0, 0]), [1]),
    (("sequential",), None),
    (("set_terms", [1, 1]), [-22]),
    (("stationary", 2, 5, [-2, -4], [1, 0, 1]), None),
    (("stationary", 2, 0, [0, 0], [0, 1, 0]), None),
    (("stationary", 1, 0, [1], [0]), None),
]


class Examples(unittest.TestCase):
    def check(self, session):
        found = run(*[call for call, expected in session])
        for (call, expected), answer in zip(session, found):
            if expected is not None:
                self.assertEqual(answer, expected, call)

    def test_the_session_without_the_calls_to_come(self):
        self.check([step for step in SESSION if step[1] is not None])

    def test_the_whole_session(self):
        self.check(SESSION)


if __name__ == "__main__":
    unittest.main()
