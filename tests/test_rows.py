"""The calls that ask about one row: leverage, deleted and lost_value."""

import unittest

from support import EMPTY, GROUPS, LINE, FitCase, built

# Only the last row holds the second column: its leverage is 1.
ALONE = built(2, [[1, 0], [1, 0], [1, 5]], [4, 8, 9])
# As many rows as the rank: every leverage is 1.
TIGHT = built(2, [[1, 1], [1, 2]], [7, 9])
ZERO_ROWS = built(2, [[0, 0], [0, 0], [0, 3]], [-9, 4, 6])
FULL = built(1, [[1]] * 24, [24] + [0] * 22 + [-48])


class Leverage(FitCase):
    def test_ordinary(self):
        self.check(LINE,
                   (("leverage", 0), [0, 3, 4]),
                   (("leverage", 1), [0, 1, 4]),
                   (("leverage", 2), [0, 3, 4]),
                   (("leverage", 3), [0, 1, 4]))

    def test_fewer_independent_columns_than_columns(self):
        self.check(GROUPS,
                   (("leverage", 0), [0, 1, 2]),
                   (("leverage", 1), [0, 1, 2]),
                   (("leverage", 2), [0, 1, 3]),
                   (("leverage", 4), [0, 1, 3]))

    def test_one_column(self):
        self.check(built(1, [[2], [-3], [6]], [1, 1, 1]),
                   (("leverage", 0), [0, 4, 49]),
                   (("leverage", 1), [0, 9, 49]),
                   (("leverage", 2), [0, 36, 49]))

    def test_a_leverage_of_one(self):
        self.check(ALONE, (("leverage", 0), [0, 1, 2]), (("leverage", 2), [0, 1, 1]))
        self.check(TIGHT, (("leverage", 0), [0, 1, 1]), (("leverage", 1), [0, 1, 1]))
        self.check(built(8, [[1] * 8], [3]), (("leverage", 0), [0, 1, 1]))

    def test_a_leverage_of_zero(self):
        self.check(ZERO_ROWS, (("leverage", 0), [0, 0, 1]), (("leverage", 2), [0, 1, 1]))
        self.check(built(1, [[0]], [5]), (("leverage", 0), [0, 0, 1]))

    def test_the_ends_of_the_ranges(self):
        self.check(built(1, [[1000], [-1000], [1]], [1000000, -1000000, 0]),
                   (("leverage", 0), [0, 1000000, 2000001]),
                   (("leverage", 1), [0, 1000000, 2000001]),
                   (("leverage", 2), [0, 1, 2000001]))

    def test_the_first_and_the_last_of_twenty_four_rows(self):
        self.check(FULL, (("leverage", 0), [0, 1, 24]), (("leverage", 23), [0, 1, 24]))

    def test_the_responses_do_not_matter(self):
        self.check(built(2, [[1, 0], [1, 1], [1, 2], [1, 1]], [-9, 1000000, 0, 5]),
                   (("leverage", 0), [0, 3, 4]), (("leverage", 1), [0, 1, 4]))

    def test_no_such_row(self):
        self.check_no_such_row("leverage")


class Deleted(FitCase):
    def test_ordinary(self):
        self.check(LINE,
                   (("deleted", 0), [0, -2, 1]),
                   (("deleted", 1), [0, 0, 1]),
                   (("deleted", 2), [0, -2, 1]),
                   (("deleted", 3), [0, 4, 3]))

    def test_fewer_independent_columns_than_columns(self):
        self.check(GROUPS,
                   (("deleted", 0), [0, -1, 1]),
                   (("deleted", 1), [0, 1, 1]),
                   (("deleted", 2), [0, -7, 2]),
                   (("deleted", 4), [0, 4, 1]))

    def test_a_leverage_of_one(self):
        self.check(ALONE, (("deleted", 1), [0, 4, 1]), (("deleted", 2), [-33]))
        for model, index in ((ALONE, 2), (TIGHT, 0), (TIGHT, 1), (ZERO_ROWS, 2)):
            self.check_stands(model, ("deleted", index), -33)
        self.check(built(1, [[-1000]], [0]), (("deleted", 0), [-33]))

    def test_rows_of_zeros(self):
        self.check(ZERO_ROWS, (("deleted", 0), [0, -9, 1]), (("deleted", 1), [0, 4, 1]))
        self.check(built(3, [[0, 0, 0]], [1000000]), (("deleted", 0), [0, 1000000, 1]))

    def test_a_residual_sum_of_zero(self):
        self.check(built(2, [[1, 0], [1, 1], [1, 2]], [1, 3, 5]),
                   (("deleted", 0), [0, 0, 1]), (("deleted", 2), [0, 0, 1]))

    def test_the_ends_of_the_ranges(self):
        self.check(built(1, [[1000], [1000]], [1000000, -1000000]),
                   (("deleted", 0), [0, 2000000, 1]), (("deleted", 1), [0, -2000000, 1]))

    def test_the_first_and_the_last_of_twenty_four_rows(self):
        # Behind the row the others are left: their mean is -48/23 or 24/23.
        self.check(FULL, (("deleted", 0), [0, 600, 23]), (("deleted", 23), [0, -1128, 23]))

    def test_no_such_row(self):
        self.check_no_such_row("deleted")


class LostValue(FitCase):
    def test_ordinary(self):
        self.check(LINE,
                   (("lost_value", 0), [0, 3, 1]),
                   (("lost_value", 1), [0, 3, 1]),
                   (("lost_value", 2), [0, 6, 1]),
                   (("lost_value", 3), [0, 8, 3]))

    def test_fewer_independent_columns_than_columns(self):
        self.check(GROUPS,
                   (("lost_value", 0), [0, 2, 1]),
                   (("lost_value", 1), [0, 1, 1]),
                   (("lost_value", 2), [0, 15, 2]),
                   (("lost_value", 4), [0, 5, 1]))

    def test_the_response_does_not_matter(self):
        for response in (-1000000, 0, 1000000):
            self.check(LINE + [("set_response", 0, response)], (("lost_value", 0), [0, 3, 1]))

    def test_entries_that_are_not_estimable_without_the_row(self):
        self.check(ALONE, (("lost_value", 0), [0, 8, 1]), (("lost_value", 1), [0, 4, 1]))
        for model, index in ((ALONE, 2), (TIGHT, 0), (TIGHT, 1), (ZERO_ROWS, 2)):
            self.check_stands(model, ("lost_value", index), -33)
        self.check(built(3, [[0, 1, 0]], [0]), (("lost_value", 0), [-33]))

    def test_estimable_through_a_row_of_another_size(self):
        self.check(built(2, [[2, 4], [-3, -6]], [5, 7]),
                   (("lost_value", 0), [0, -14, 3]), (("lost_value", 1), [0, -15, 2]))

    def test_rows_of_zeros(self):
        self.check(ZERO_ROWS, (("lost_value", 0), [0, 0, 1]), (("lost_value", 1), [0, 0, 1]))
        self.check(built(3, [[0, 0, 0]], [5]), (("lost_value", 0), [0, 0, 1]))

    def test_the_ends_of_the_ranges(self):
        self.check(built(1, [[1000], [-1000]], [1000000, 1000000]),
                   (("lost_value", 0), [0, -1000000, 1]), (("lost_value", 1), [0, -1000000, 1]))

    def test_the_first_and_the_last_of_twenty_four_rows(self):
        self.check(FULL, (("lost_value", 0), [0, -48, 23]), (("lost_value", 23), [0, 24, 23]))

    def test_it_is_the_estimate_behind_the_removed_row(self):
        for index, row in enumerate([[1, 0], [1, 1], [1, 2], [1, 1]]):
            before = self.answers_to(LINE, ("lost_value", index))[0]
            after = self.answers_to(LINE + [("remove_row", index)], ("estimate", row))[0]
            self.assertEqual(before, after[:3])

    def test_no_such_row(self):
        self.check_no_such_row("lost_value")
        self.check(EMPTY, (("lost_value", 0), [-2]))


if __name__ == "__main__":
    unittest.main()
