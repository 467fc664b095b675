"""The calls that answer sums of squares: residual_sum to lack_of_fit."""

import unittest

from support import EMPTY, GROUPS, LARGE, LINE, FitCase, built

EXACT = built(2, [[1, 0], [1, 1], [1, 2]], [1, 3, 5])
TIGHT = built(2, [[1, 0], [1, 1]], [1, 5])
ZERO_ROWS = built(2, [[0, 0]] * 3, [1, 2, 3])
# Three columns, of which the last two are one term.
GROUPS_IN_TERMS = GROUPS + [("set_terms", [0, 1, 1])]
# All the responses at the ends of their range, the entries too.
ENDS = built(1, [[1000], [-1000], [1000]], [1000000, 1000000, -1000000])
# Columns of unlike powers: entry in row k, column j is k ** j.
POWERS = built(3, [[1, k, k * k] for k in range(-2, 3)], [3, 0, -1, 2, 7])


class ResidualSum(FitCase):
    def test_ordinary(self):
        self.check(LINE, (("residual_sum",), [2, 3, 2]))

    def test_fewer_independent_columns_than_columns(self):
        self.check(GROUPS, (("residual_sum",), [3, 79, 6]))

    def test_the_terms_do_not_matter(self):
        self.check(GROUPS_IN_TERMS, (("residual_sum",), [3, 79, 6]))

    def test_no_rows(self):
        for width in (1, 3, 8):
            self.check([("create", width)], (("residual_sum",), [0, 0, 1]))

    def test_the_freedom_is_zero(self):
        self.check(TIGHT, (("residual_sum",), [0, 0, 1]))
        self.check(built(8, [[1] * 8], [5]), (("residual_sum",), [0, 0, 1]))

    def test_a_residual_sum_of_zero(self):
        self.check(EXACT, (("residual_sum",), [1, 0, 1]))
        self.check(built(2, [[1, 7], [1, 3]] * 12, [0] * 24), (("residual_sum",), [22, 0, 1]))

    def test_rows_of_zeros(self):
        self.check(ZERO_ROWS, (("residual_sum",), [3, 14, 1]))

    def test_the_ends_of_the_ranges(self):
        self.check(ENDS, (("residual_sum",), [2, 8000000000000, 3]))
        self.check(built(1, [[0]] * 24, [-1000000] * 24),
                   (("residual_sum",), [24, 24000000000000, 1]))


class VarianceEstimate(FitCase):
    def test_ordinary(self):
        self.check(LINE, (("variance_estimate",), [0, 3, 4]))

    def test_fewer_independent_columns_than_columns(self):
        self.check(GROUPS, (("variance_estimate",), [0, 79, 18]))

    def test_a_residual_sum_of_zero(self):
        self.check(EXACT, (("variance_estimate",), [0, 0, 1]))

    def test_rows_of_zeros(self):
        self.check(ZERO_ROWS, (("variance_estimate",), [0, 14, 3]))

    def test_the_ends_of_the_ranges(self):
        self.check(ENDS, (("variance_estimate",), [0, 4000000000000, 3]))

    def test_the_freedom_is_zero(self):
        for model in (TIGHT, EMPTY, built(8, [[1] * 8], [5])):
            self.check_stands(model, ("variance_estimate",), -33)


class Sequential(FitCase):
    def test_ordinary(self):
        self.check(LINE, (("sequential",), [2, 1, 36, 1, 1, 9, 2]))

    def test_a_term_of_several_columns(self):
        self.check(LINE + [("set_terms", [0, 0])], (("sequential",), [1, 2, 81, 2]))
        self.check(GROUPS_IN_TERMS, (("sequential",), [2, 1, 484, 5, 1, 841, 30]))
        self.check(GROUPS + [("set_terms", [0, 0, 1])],
                   (("sequential",), [2, 2, 749, 6, 0, 0, 1]))
        self.check(GROUPS + [("set_terms", [0, 0, 0])], (("sequential",), [1, 2, 749, 6]))

    def test_fewer_independent_columns_than_columns(self):
        self.check(GROUPS, (("sequential",), [3, 1, 484, 5, 1, 841, 30, 0, 0, 1]))

    def test_unlike_terms_that_are_not_orthogonal(self):
        # The products with 1, k and k * k add up to 11, 10 and 42.
        self.check(POWERS, (("sequential",), [3, 1, 121, 5, 1, 10, 1, 1, 200, 7]))

    def test_the_order_of_the_columns_matters(self):
        self.check(built(2, [[0, 1], [1, 1], [2, 1], [1, 1]], [1, 3, 4, 4]),
                   (("sequential",), [2, 1, 75, 2, 1, 3, 1]))

    def test_a_first_term_without_degrees(self):
        self.check(built(2, [[0, 1], [0, 2]], [1, 4]), (("sequential",), [2, 0, 0, 1, 1, 81, 5]))
        self.check(ZERO_ROWS, (("sequential",), [2, 0, 0, 1, 0, 0, 1]))

    def test_no_rows(self):
        self.check(EMPTY, (("sequential",), [3, 0, 0, 1, 0, 0, 1, 0, 0, 1]))
        self.check([("create", 8), ("set_terms", [0] * 7 + [1])],
                   (("sequential",), [2, 0, 0, 1, 0, 0, 1]))

    def test_the_freedom_is_zero(self):
        self.check(TIGHT, (("sequential",), [2, 1, 18, 1, 1, 8, 1]))

    def test_responses_of_zero(self):
        self.check(built(2, [[1, 0], [1, 1], [1, 2]], [0, 0, 0]),
                   (("sequential",), [2, 1, 0, 1, 1, 0, 1]))

    def test_eight_terms(self):
        rows = [[int(place == index) for place in range(8)] for index in range(8)]
        expected = [8]
        for index in range(8):
            expected.extend([1, index ** 2, 1])
        self.check(built(8, rows, range(8)), (("sequential",), expected))

    def test_the_ends_of_the_ranges(self):
        self.check(ENDS, (("sequential",), [1, 1, 1000000000000, 3]))


class Marginal(FitCase):
    def test_ordinary(self):
        self.check(LINE, (("marginal",), [2, 1, 3, 1, 1, 9, 2]))

    def test_a_term_of_several_columns(self):
        self.check(LINE + [("set_terms", [0, 0])], (("marginal",), [1, 2, 81, 2]))
        self.check(GROUPS_IN_TERMS, (("marginal",), [2, 0, 0, 1, 1, 841, 30]))
        self.check(GROUPS + [("set_terms", [0, 0, 1])], (("marginal",), [2, 1, 9, 2, 0, 0, 1]))

    def test_fewer_independent_columns_than_columns(self):
        self.check(GROUPS, (("marginal",), [3, 0, 0, 1, 0, 0, 1, 0, 0, 1]))

    def test_unlike_terms_that_are_not_orthogonal(self):
        self.check(POWERS, (("marginal",), [3, 1, 529, 595, 1, 10, 1, 1, 200, 7]))

    def test_a_middle_term(self):
        # Without the middle column the first and the last are left.
        model = built(3, [[1, 1, 0], [0, 1, 0], [0, 1, 1], [0, 1, 0]], [5, 1, 7, 3])
        self.check(model, (("marginal",), [3, 1, 6, 1, 1, 8, 1, 1, 50, 3]))

    def test_no_rows(self):
        self.check(EMPTY, (("marginal",), [3, 0, 0, 1, 0, 0, 1, 0, 0, 1]))

    def test_the_freedom_is_zero(self):
        self.check(TIGHT, (("marginal",), [2, 1, 1, 1, 1, 8, 1]))

    def test_rows_of_zeros(self):
        self.check(ZERO_ROWS, (("marginal",), [2, 0, 0, 1, 0, 0, 1]))

    def test_eight_terms(self):
        rows = [[int(place == index) for place in range(8)] for index in range(8)]
        expected = [8]
        for index in range(8):
            expected.extend([1, (index - 4) ** 2, 1])
        self.check(built(8, rows, range(-4, 4)), (("marginal",), expected))

    def test_the_ends_of_the_ranges(self):
        self.check(ENDS, (("marginal",), [1, 1, 1000000000000, 3]))


class FRatio(FitCase):
    def test_ordinary(self):
        self.check(LINE, (("f_ratio", 0), [0, 4, 1]), (("f_ratio", 1), [0, 6, 1]))

    def test_a_term_of_several_columns(self):
        self.check(LINE + [("set_terms", [0, 0])],
                   (("f_ratio", 0), [0, 27, 1]), (("f_ratio", 1), [-2]))
        self.check(GROUPS_IN_TERMS, (("f_ratio", 1), [0, 2523, 395]))
        self.check(GROUPS + [("set_terms", [0, 0, 0])], (("f_ratio", 0), [0, 2247, 158]))

    def test_a_term_without_degrees(self):
        for term in (0, 1, 2):
            self.check_stands(GROUPS, ("f_ratio", term), -33)
        self.check_stands(GROUPS_IN_TERMS, ("f_ratio", 0), -33)
        self.check_stands(ZERO_ROWS, ("f_ratio", 1), -33)

    def test_a_ratio_of_zero(self):
        self.check(built(2, [[1, -1], [1, 0], [1, 1]], [3, 0, 3]), (("f_ratio", 1), [0, 0, 1]))

    def test_the_freedom_is_zero(self):
        self.check_stands(TIGHT, ("f_ratio", 0), -33)
        self.check_stands(TIGHT, ("f_ratio", 1), -33)
        self.check_stands(EMPTY, ("f_ratio", 2), -33)

    def test_the_residual_sum_is_zero(self):
        self.check_stands(EXACT, ("f_ratio", 0), -33)
        self.check_stands(EXACT, ("f_ratio", 1), -33)

    def test_no_such_term(self):
        for term in (2, 3, 8, 2147483648, LARGE):
            self.check_stands(LINE, ("f_ratio", term), -2)
        for term in (2, LARGE):
            self.check_stands(GROUPS_IN_TERMS, ("f_ratio", term), -2)

    def test_the_term_is_checked_first(self):
        self.check_stands(TIGHT, ("f_ratio", 2), -2)
        self.check_stands(EXACT, ("f_ratio", 2), -2)
        self.check_stands(EMPTY, ("f_ratio", 3), -2)

    def test_the_first_and_the_last_of_eight_terms(self):
        rows = [[int(place == index % 8) for place in range(8)] for index in range(16)]
        model = built(8, rows, [2] + [1] * 6 + [3] + [4] + [1] * 6 + [3])
        # The first group has the responses 2 and 4, the last one 3 and 3.
        self.check(model, (("f_ratio", 0), [0, 72, 1]), (("f_ratio", 7), [0, 72, 1]),
                   (("f_ratio", 3), [0, 8, 1]), (("f_ratio", 8), [-2]))

    def test_the_ends_of_the_ranges(self):
        self.check(ENDS, (("f_ratio", 0), [0, 1, 4]), (("f_ratio", 1), [-2]))


class LackOfFit(FitCase):
    def test_ordinary(self):
        self.check(LINE, (("lack_of_fit",), [1, 1, 1, 1, 1, 2]))

    def test_fewer_independent_columns_than_columns(self):
        self.check(GROUPS, (("lack_of_fit",), [0, 0, 1, 3, 79, 6]))

    def test_no_rows_of_equal_entries(self):
        model = built(2, [[1, 0], [1, 1], [1, 2], [1, 3]], [1, 3, 4, 4])
        self.check(model, (("residual_sum",), [2, 1, 1]),
                   (("lack_of_fit",), [2, 1, 1, 0, 0, 1]))

    def test_no_rows(self):
        self.check(EMPTY, (("lack_of_fit",), [0, 0, 1, 0, 0, 1]))

    def test_one_row(self):
        self.check(built(1, [[-1000]], [-1000000]), (("lack_of_fit",), [0, 0, 1, 0, 0, 1]))

    def test_rows_of_zeros(self):
        # They are equal too; their mean isn't fitted.
        self.check(ZERO_ROWS, (("lack_of_fit",), [1, 12, 1, 2, 2, 1]))

    def test_equal_rows_that_are_not_side_by_side(self):
        model = built(2, [[1, 5], [1, 0], [1, 5], [1, 9], [1, 0], [1, 5]], [1, 2, 4, 8, 3, 7])
        # The groups make up 18 and 1/2, with 2 and 1 degrees.
        found = self.answers_to(model, ("lack_of_fit",), ("residual_sum",))
        self.assertEqual(found[0][3:], [3, 37, 2])
        self.assertEqual((found[0][0], found[1][0]), (1, 4))

    def test_rows_with_the_same_entries_in_another_order(self):
        model = built(2, [[1, 2], [2, 1], [1, -2], [-1, 2]], [1, 3, 5, 8])
        self.assertEqual(self.answers_to(model, ("lack_of_fit",))[0][3:], [0, 0, 1])

    def test_proportional_rows_are_not_equal(self):
        model = built(1, [[1], [2], [0]], [1, 5, 2])
        self.check(model, (("residual_sum",), [2, 29, 5]), (("lack_of_fit",), [2, 29, 5, 0, 0, 1]))

    def test_equal_rows_with_equal_responses(self):
        model = built(2, [[1, 0], [1, 1], [1, 2], [1, 1]], [1, 4, 4, 4])
        found = self.answers_to(model, ("lack_of_fit",), ("residual_sum",))
        self.assertEqual(found[0], [1] + found[1][1:] + [1, 0, 1])

    def test_a_residual_sum_of_zero(self):
        self.check(EXACT, (("lack_of_fit",), [1, 0, 1, 0, 0, 1]))

    def test_the_freedom_is_zero(self):
        self.check(TIGHT, (("lack_of_fit",), [0, 0, 1, 0, 0, 1]))

    def test_twenty_four_equal_rows(self):
        model = built(2, [[1000, -1000]] * 24, [1000000, -1000000] * 12)
        self.check(model, (("lack_of_fit",), [0, 0, 1, 23, 24000000000000, 1]))

    def test_the_terms_do_not_matter(self):
        self.check(LINE + [("set_terms", [0, 0])], (("lack_of_fit",), [1, 1, 1, 1, 1, 2]))


if __name__ == "__main__":
    unittest.main()
