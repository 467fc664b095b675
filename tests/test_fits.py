"""The calls that ask about the fit: rank to fitted, predict and normal_equations."""

import unittest

from support import EMPTY, GROUPS, LARGE, LINE, FitCase, built, last, run


class Rank(FitCase):
    def test_ordinary(self):
        self.check(LINE, (("rank",), [2, 2]))
        self.check(GROUPS, (("rank",), [2, 3]))

    def test_no_rows(self):
        self.check(EMPTY, (("rank",), [0, 0]))

    def test_rows_of_zeros(self):
        self.check(built(2, [[0, 0]] * 3, [1, 2, 3]), (("rank",), [0, 3]))

    def test_fewer_rows_than_columns(self):
        self.check(built(8, [[1] * 8], [5]), (("rank",), [1, 0]))
        self.check(built(3, [[1, 2, 3], [2, 4, 6]], [5, 5]), (("rank",), [1, 1]))
        self.check(built(3, [[1, 2, 3], [2, 4, 7]], [5, 5]), (("rank",), [2, 0]))

    def test_a_first_column_of_zeros(self):
        self.check(built(3, [[0, 1, 2], [0, 2, 4], [0, 1, 3]], [1, 2, 3]), (("rank",), [2, 1]))

    def test_twenty_four_rows_and_eight_columns(self):
        rows = [[(index + 2) ** place % 997 for place in range(8)] for index in range(24)]
        self.check(built(8, rows, range(24)), (("rank",), [8, 16]))

    def test_nearly_dependent_rows(self):
        self.check(built(2, [[1000, 999], [999, 998]], [0, 0]), (("rank",), [2, 0]))
        self.check(built(2, [[1000, -1000], [-1000, 1000]], [0, 0]), (("rank",), [1, 1]))

    def test_the_rank_follows_the_rows(self):
        found = run(*LINE, ("remove_row", 0), ("remove_row", 1), ("rank",), ("clear",), ("rank",))
        self.assertEqual(found[-3:], [[1, 1], [2], [0, 0]])


class Coefficients(FitCase):
    def test_ordinary(self):
        self.check(LINE, (("coefficients",), [2, 3, 2, 3, 2]))

    def test_one_column(self):
        self.check(built(1, [[2], [4]], [3, -5]), (("coefficients",), [1, -7, 10]))

    def test_zero_is_zero_over_one(self):
        self.check(built(2, [[3, 0], [0, -7]], [0, 0]), (("coefficients",), [2, 0, 1, 0, 1]))
        self.check(built(2, [[3, 0], [0, -7]], [0, 2]), (("coefficients",), [2, 0, 1, -2, 7]))

    def test_denominators_are_positive(self):
        self.check(built(1, [[-3]], [2]), (("coefficients",), [1, -2, 3]))
        self.check(built(1, [[-3]], [-2]), (("coefficients",), [1, 2, 3]))

    def test_an_exact_fit(self):
        rows = [[1, 1, 1], [1, 2, 4], [1, 3, 9], [1, 4, 16]]
        self.check(built(3, rows, [2, 3, 6, 11]), (("coefficients",), [3, 3, 1, -2, 1, 1, 1]))

    def test_eight_columns(self):
        rows = [[int(place == index) * (index + 1) for place in range(8)] for index in range(8)]
        self.check(built(8, rows, [1] * 8),
                   (("coefficients",), [8, 1, 1, 1, 2, 1, 3, 1, 4, 1, 5, 1, 6, 1, 7, 1, 8]))

    def test_fewer_independent_columns_than_columns(self):
        self.check(GROUPS, (("coefficients",), [-33]))
        self.check(built(1, [[0]], [0]), (("coefficients",), [-33]))
        self.check(built(2, [[1, 1]], [2]), (("coefficients",), [-33]))

    def test_no_rows(self):
        for width in (1, 3, 8):
            self.check([("create", width)], (("coefficients",), [-33]))


class Estimate(FitCase):
    def test_ordinary(self):
        self.check(LINE,
                   (("estimate", [0, 1]), [0, 3, 2, 1, 2]),
                   (("estimate", [1, 0]), [0, 3, 2, 3, 4]),
                   (("estimate", [1, 2]), [0, 9, 2, 3, 4]),
                   (("estimate", [-1, 1]), [0, 0, 1, 9, 4]),
                   (("estimate", [0, 0]), [0, 0, 1, 0, 1]))

    def test_vectors_at_the_ends_of_the_range(self):
        self.check(LINE,
                   (("estimate", [1000, 1000]), [0, 3000, 1, 250000, 1]),
                   (("estimate", [-1000, -1000]), [0, -3000, 1, 250000, 1]),
                   (("estimate", [0, -1000]), [0, -1500, 1, 500000, 1]))

    def test_fewer_independent_columns_than_columns(self):
        self.check(GROUPS,
                   (("estimate", [1, 1, 0]), [0, 3, 2, 1, 2]),
                   (("estimate", [1, 0, 1]), [0, 19, 3, 1, 3]),
                   (("estimate", [0, 1, -1]), [0, -29, 6, 5, 6]),
                   (("estimate", [2, 1, 1]), [0, 47, 6, 5, 6]),
                   (("estimate", [0, 0, 0]), [0, 0, 1, 0, 1]))

    def test_vectors_that_are_not_estimable(self):
        for vector in ([1, 0, 0], [0, 1, 0], [0, 0, 1], [1, 1, 1], [0, 1, 1], [1000, -1000, 0]):
            self.check(GROUPS, (("estimate", vector), [-33]))

    def test_no_rows(self):
        self.check(EMPTY,
                   (("estimate", [0, 0, 0]), [0, 0, 1, 0, 1]),
                   (("estimate", [1, 0, 0]), [-33]),
                   (("estimate", [0, 0, -1000]), [-33]))

    def test_rows_of_zeros(self):
        self.check(built(2, [[0, 0]], [9]),
                   (("estimate", [0, 0]), [0, 0, 1, 0, 1]),
                   (("estimate", [0, 1]), [-33]))

    def test_a_vector_that_is_a_row_by_parts_only(self):
        self.check(built(2, [[2, 4]], [3]),
                   (("estimate", [1, 2]), [0, 3, 2, 1, 4]),
                   (("estimate", [3, 6]), [0, 9, 2, 9, 4]),
                   (("estimate", [1, 3]), [-33]))

    def test_errors_of_range(self):
        self.check_vector_ranges(lambda vector: ("estimate", vector))
        self.assertEqual(last(*GROUPS, ("estimate", [1, 0, 1001])), [-22])


class Covariance(FitCase):
    def test_ordinary(self):
        self.check(LINE,
                   (("covariance", [1, 0], [0, 1]), [0, -1, 2]),
                   (("covariance", [0, 1], [1, 0]), [0, -1, 2]),
                   (("covariance", [0, 1], [0, 1]), [0, 1, 2]),
                   (("covariance", [1, 1], [0, 1]), [0, 0, 1]),
                   (("covariance", [1, 2], [1, 0]), [0, -1, 4]),
                   (("covariance", [0, 0], [1, 5]), [0, 0, 1]))

    def test_fewer_independent_columns_than_columns(self):
        self.check(GROUPS,
                   (("covariance", [1, 1, 0], [1, 0, 1]), [0, 0, 1]),
                   (("covariance", [0, 1, -1], [1, 1, 0]), [0, 1, 2]),
                   (("covariance", [1, 0, 1], [0, 1, -1]), [0, -1, 3]),
                   (("covariance", [0, 1, -1], [0, 1, -1]), [0, 5, 6]))

    def test_one_of_them_is_not_estimable(self):
        self.check(GROUPS,
                   (("covariance", [1, 0, 0], [1, 1, 0]), [-33]),
                   (("covariance", [1, 1, 0], [1, 0, 0]), [-33]),
                   (("covariance", [1, 0, 0], [1, 0, 0]), [-33]),
                   (("covariance", [0, 0, 0], [1, 0, 0]), [-33]),
                   (("covariance", [1, 0, 0], [0, 0, 0]), [-33]))

    def test_no_rows(self):
        self.check(EMPTY,
                   (("covariance", [0, 0, 0], [0, 0, 0]), [0, 0, 1]),
                   (("covariance", [0, 0, 0], [0, 1, 0]), [-33]),
                   (("covariance", [0, 1, 0], [0, 0, 0]), [-33]))

    def test_errors_of_range(self):
        self.check_vector_ranges(lambda vector: ("covariance", vector, [0, 1]))
        self.check_vector_ranges(lambda vector: ("covariance", [0, 1], vector))
        self.check_vector_ranges(lambda vector: ("covariance", vector, vector))

    def test_the_range_is_checked_first_for_both(self):
        self.check(GROUPS,
                   (("covariance", [1, 0, 0], [1, 1]), [-22]),
                   (("covariance", [1, 0, 0], [1, 1001, 0]), [-22]),
                   (("covariance", [1, -1001, 0], [1, 0, 0]), [-22]),
                   (("covariance", [], [1, 0, 0]), [-22]))


class SquaredRatio(FitCase):
    def test_ordinary(self):
        self.check(LINE,
                   (("squared_ratio", [0, 1]), [0, 6, 1]),
                   (("squared_ratio", [0, -1000]), [0, 6, 1]),
                   (("squared_ratio", [1, 0]), [0, 4, 1]),
                   (("squared_ratio", [-1, 1]), [0, 0, 1]))

    def test_fewer_independent_columns_than_columns(self):
        # Estimate -29/6, factor 5/6, residual sum 1/2 + 38/3 with freedom 3.
        self.check(GROUPS, (("squared_ratio", [0, 1, -1]), [0, 2523, 395]))

    def test_vectors_that_are_not_estimable(self):
        self.check(GROUPS, (("squared_ratio", [0, 1, 0]), [-33]))
        self.check(EMPTY, (("squared_ratio", [0, 1, 0]), [-33]))

    def test_the_freedom_is_zero(self):
        self.check(built(2, [[1, 0], [1, 1]], [1, 5]), (("squared_ratio", [0, 1]), [-33]))
        self.check(EMPTY, (("squared_ratio", [0, 0, 0]), [-33]))

    def test_the_residual_sum_is_zero(self):
        exact = built(2, [[1, 0], [1, 1], [1, 2]], [1, 3, 5])
        self.check(exact, (("rank",), [2, 1]), (("squared_ratio", [0, 1]), [-33]))

    def test_the_variance_factor_is_zero(self):
        self.check(LINE, (("squared_ratio", [0, 0]), [-33]))
        self.check(GROUPS, (("squared_ratio", [0, 0, 0]), [-33]))

    def test_errors_of_range(self):
        self.check_vector_ranges(lambda vector: ("squared_ratio", vector))


class Fitted(FitCase):
    def test_ordinary(self):
        self.check(LINE,
                   (("fitted", 0), [0, 3, 2, -1, 2]),
                   (("fitted", 1), [0, 3, 1, 0, 1]),
                   (("fitted", 2), [0, 9, 2, -1, 2]),
                   (("fitted", 3), [0, 3, 1, 1, 1]))

    def test_fewer_independent_columns_than_columns(self):
        self.check(GROUPS,
                   (("fitted", 0), [0, 3, 2, -1, 2]),
                   (("fitted", 1), [0, 3, 2, 1, 2]),
                   (("fitted", 2), [0, 19, 3, -7, 3]),
                   (("fitted", 4), [0, 19, 3, 8, 3]))

    def test_rows_of_zeros(self):
        self.check(built(2, [[0, 0], [0, 1]], [-9, 4]),
                   (("fitted", 0), [0, 0, 1, -9, 1]),
                   (("fitted", 1), [0, 4, 1, 0, 1]))

    def test_the_fractions_are_reduced_each_by_itself(self):
        self.check(built(1, [[1], [2]], [0, 1]),
                   (("fitted", 0), [0, 2, 5, -2, 5]), (("fitted", 1), [0, 4, 5, 1, 5]))
        self.check(built(1, [[1]] * 6, [3, 0, 0, 0, 0, 0]),
                   (("fitted", 0), [0, 1, 2, 5, 2]), (("fitted", 5), [0, 1, 2, -1, 2]))

    def test_no_such_row(self):
        for index in (4, 5, 24, 2147483648, LARGE):
            self.check(LINE, (("fitted", index), [-2]))
        self.check(EMPTY, (("fitted", 0), [-2]))

    def test_the_last_of_twenty_four_rows(self):
        model = built(1, [[1]] * 24, [0] * 23 + [24])
        self.check(model, (("fitted", 23), [0, 1, 1, 23, 1]), (("fitted", 24), [-2]))


class Predict(FitCase):
    def test_ordinary(self):
        self.check(LINE,
                   (("predict", [1, 2]), [0, 9, 2, 7, 4]),
                   (("predict", [0, 1]), [0, 3, 2, 3, 2]),
                   (("predict", [1, 0]), [0, 3, 2, 7, 4]),
                   (("predict", [-1, 1]), [0, 0, 1, 13, 4]))

    def test_a_vector_of_zeros(self):
        for model in (LINE + [("remove_row", 0)], built(2, [[0, 0]], [9])):
            self.check(model, (("predict", [0, 0]), [0, 0, 1, 1, 1]))

    def test_vectors_at_the_ends_of_the_range(self):
        self.check(LINE,
                   (("predict", [1000, 1000]), [0, 3000, 1, 250001, 1]),
                   (("predict", [-1000, -1000]), [0, -3000, 1, 250001, 1]))

    def test_fewer_independent_columns_than_columns(self):
        self.check(GROUPS,
                   (("predict", [1, 1, 0]), [0, 3, 2, 3, 2]),
                   (("predict", [1, 0, 1]), [0, 19, 3, 4, 3]),
                   (("predict", [0, 1, -1]), [0, -29, 6, 11, 6]))

    def test_vectors_that_are_not_estimable(self):
        for vector in ([1, 0, 0], [0, 1, 0], [1, 1, 1], [1000, -1000, 0]):
            self.check_stands(GROUPS, ("predict", vector), -33)

    def test_no_rows(self):
        self.check(EMPTY,
                   (("predict", [0, 0, 0]), [0, 0, 1, 1, 1]),
                   (("predict", [0, 0, 1]), [-33]))

    def test_the_freedom_is_zero(self):
        self.check(built(2, [[1, 0], [1, 1]], [1, 5]), (("predict", [1, 2]), [0, 9, 1, 6, 1]))

    def test_errors_of_range(self):
        self.check_vector_ranges(lambda vector: ("predict", vector))
        self.check_stands(GROUPS, ("predict", [1, 0, 1001]), -22)


class NormalEquations(FitCase):
    def test_ordinary(self):
        self.check(LINE, (("normal_equations",), [2, 4, 4, 12, 4, 6, 15]))

    def test_each_number_stands_in_its_place(self):
        model = built(3, [[1, 10, 100], [2, 3, 5]], [-7, 4])
        self.check(model, (("normal_equations",), [
            3, 5, 16, 110, 1, 16, 109, 1015, -58, 110, 1015, 10025, -680]))

    def test_fewer_independent_columns_than_columns(self):
        self.check(GROUPS, (("normal_equations",), [3, 5, 2, 3, 22, 2, 2, 0, 3, 3, 0, 3, 19]))

    def test_no_rows(self):
        self.check([("create", 1)], (("normal_equations",), [1, 0, 0]))
        self.check(EMPTY, (("normal_equations",), [3] + [0] * 12))
        self.check([("create", 8)], (("normal_equations",), [8] + [0] * 72))

    def test_the_ends_of_the_ranges(self):
        most = [24000000] * 8 + [24000000000]
        self.check(built(8, [[1000] * 8] * 24, [1000000] * 24),
                   (("normal_equations",), [8] + most * 8))
        self.check(built(2, [[1000, -1000]], [-1000000]),
                   (("normal_equations",), [2, 1000000, -1000000, -1000000000,
                                            -1000000, 1000000, 1000000000]))

    def test_the_terms_do_not_matter(self):
        self.check(LINE + [("set_terms", [0, 0])],
                   (("normal_equations",), [2, 4, 4, 12, 4, 6, 15]))


class LargeNumbers(FitCase):
    ROWS = [[1000, -1000, 999], [-1000, 997, 1000], [991, 1000, -1000], [983, 977, 971]]

    def test_numbers_beyond_64_bits(self):
        model = built(3, self.ROWS, [1000000, -1000000, 999999, -999983])
        self.check(model,
                   (("coefficients",), [
                       3, 15292277397398038952181, 30706850000009461634,
                       -15382962247729172994595, 30706850000009461634,
                       -15428231502914767938665, 30706850000009461634]),
                   (("squared_ratio", [1000, 999, -1000]), [
                       0, 9428497910318636254732176831280244639476897076161,
                       29017899618789274625357196717481202539736335881091]))

    def test_sums_and_leverages_beyond_64_bits(self):
        model = built(3, self.ROWS, [1000000, -1000000, 999999, -999983])
        rest = [15664615683854109924678904215025, 15353425000004730817]
        last_sum = [238030327307531679061498714031269413201982225,
                    239332394728668858038200898050243]
        self.check(model,
                   (("leverage", 0), [0, 46186392986932264179, 61413700000018923268]),
                   (("deleted", 1), [0, 7915709869330510, 3878482793]),
                   (("lost_value", 2), [0, -3997706838337459, 3918006949]),
                   (("residual_sum",), [1] + rest),
                   (("variance_estimate",), [0] + rest),
                   (("sequential",), [
                       3, 1, 403212713176711840, 394837,
                       1, 5932753821790887202704571025610, 6154801598825949823,
                       1] + last_sum),
                   (("marginal",), [
                       3, 1, 233853747998970939752284575313167348404656761,
                       238864286885647917201163129857419,
                       1, 236635527515060970304305333365976639899214025,
                       238876194578077736070254148815147, 1] + last_sum),
                   (("f_ratio", 2), [
                       0, 9521213092301267162459948561250776528079289,
                       9767332003432234072766605495395405180181579]),
                   (("lack_of_fit",), [1] + rest + [0, 0, 1]),
                   (("predict", [1000, 999, -1000]), [
                       0, 15352929614831363069245595, 30706850000009461634,
                       107724921744033221759, 61413700000018923268]))

    def test_the_ends_of_both_ranges(self):
        model = built(1, [[1000], [-1000]], [1000000, -1000000])
        self.check(model, (("coefficients",), [1, 1000, 1]),
                   (("fitted", 0), [0, 1000000, 1, 0, 1]),
                   (("estimate", [1000]), [0, 1000000, 1, 1, 2]))
        model = built(1, [[1000], [1000]], [1000000, -1000000])
        self.check(model, (("coefficients",), [1, 0, 1]),
                   (("fitted", 1), [0, 0, 1, -1000000, 1]))


if __name__ == "__main__":
    unittest.main()
