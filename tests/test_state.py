"""The calls that change the state or show it: create to get_row, and summary."""

import unittest

from linearfits.state import STATE_OPERATIONS, Model
from support import LARGE, LEAST, MOST, FitCase, built, last, run

PAIR = built(2, [[1, 0], [1, 5]], [7, -8])
PAIR_STANDS = [[7, 1, 0], [-8, 1, 5], [-2], [2, 0]]
LOOK = [("get_row", 0), ("get_row", 1), ("get_row", 2), ("rank",)]


def full(width=1):
    """A model with as many rows as there may be; row k holds k + 1 first."""
    rows = [[index + 1] + [0] * (width - 1) for index in range(24)]
    return built(width, rows, range(100, 124))


class StateCase(FitCase):
    def refused(self, call, code):
        """The call on the pair is refused, and the pair stands behind it."""
        with self.subTest(call=call):
            found = run(*PAIR, call, *LOOK)
            self.assertEqual(found[len(PAIR)], [code])
            self.assertEqual(found[len(PAIR) + 1:], PAIR_STANDS)
            self.check_stands(PAIR + [("set_terms", [0, 0])], call, code)


class Create(StateCase):
    def test_one_to_eight_columns(self):
        for width in range(1, 9):
            found = run(("create", width), ("add_row", 5, [3] * width), ("get_row", 0))
            self.assertEqual(found, [[0], [1], [5] + [3] * width])

    def test_other_numbers_of_columns(self):
        for width in (0, 9, 10, 60, 2147483648, LARGE):
            self.assertEqual(run(("create", width)), [[-22]])
            self.refused(("create", width), -22)

    def test_a_refused_create_keeps_the_number_of_columns(self):
        found = run(("create", 3), ("create", 9), ("add_row", 1, [1, 2, 3]))
        self.assertEqual(found, [[0], [-22], [1]])

    def test_a_new_start_has_no_rows(self):
        for width in (1, 2, 3):
            found = run(*PAIR, ("create", width), ("get_row", 0), ("rank",), ("clear",))
            self.assertEqual(found[len(PAIR):], [[0], [-2], [0, 0], [0]])

    def test_a_new_start_takes_rows_of_its_own_length(self):
        found = run(*PAIR, ("create", 3), ("add_row", 1, [1, 2]), ("add_row", 1, [1, 2, 3]))
        self.assertEqual(found[-2:], [[-22], [1]])


class AddRow(StateCase):
    def test_counts_the_rows(self):
        found = run(*full())
        self.assertEqual(found, [[0]] + [[count] for count in range(1, 25)])

    def test_adds_at_the_end(self):
        found = run(*PAIR, ("add_row", 9, [4, 4]), *LOOK)
        self.assertEqual(found[-5:], [[3], [7, 1, 0], [-8, 1, 5], [9, 4, 4], [2, 1]])

    def test_the_same_row_again(self):
        found = run(*PAIR, PAIR[1], *LOOK)
        self.assertEqual(found[-5:], [[3], [7, 1, 0], [-8, 1, 5], [7, 1, 0], [2, 1]])

    def test_the_largest_numbers(self):
        for response in (1000000, -1000000):
            found = run(("create", 2), ("add_row", response, [1000, -1000]), ("get_row", 0))
            self.assertEqual(found, [[0], [1], [response, 1000, -1000]])

    def test_responses_outside_the_range(self):
        for response in (1000001, -1000001, MOST, LEAST):
            self.refused(("add_row", response, [1, 0]), -22)

    def test_entries_outside_the_range(self):
        for entry in (1001, -1001, MOST, LEAST):
            self.refused(("add_row", 1, [entry, 0]), -22)
            self.refused(("add_row", 1, [0, entry]), -22)

    def test_other_lengths(self):
        for length in (0, 1, 3, 8, 60):
            self.refused(("add_row", 1, [1] * length), -22)

    def test_a_twenty_fifth_row(self):
        found = run(*full(), ("add_row", 5, [5]), ("get_row", 24), ("get_row", 23), ("rank",))
        self.assertEqual(found[-4:], [[-28], [-2], [123, 24], [1, 23]])

    def test_the_range_is_checked_before_the_number_of_rows(self):
        for response, row in ((1000001, [5]), (5, [1001]), (5, []), (5, [5, 5])):
            self.assertEqual(last(*full(), ("add_row", response, row)), [-22])

    def test_room_again_behind_a_removed_row(self):
        found = run(*full(), ("remove_row", 0), ("add_row", 5, [6]), ("get_row", 23))
        self.assertEqual(found[-3:], [[23], [24], [5, 6]])


class RemoveRow(StateCase):
    def test_the_first_row(self):
        found = run(*PAIR, ("remove_row", 0), ("get_row", 0), ("get_row", 1))
        self.assertEqual(found[-3:], [[1], [-8, 1, 5], [-2]])

    def test_the_last_row(self):
        found = run(*PAIR, ("remove_row", 1), ("get_row", 0), ("get_row", 1))
        self.assertEqual(found[-3:], [[1], [7, 1, 0], [-2]])

    def test_a_row_in_between(self):
        found = run(*full(), ("remove_row", 10), ("get_row", 9), ("get_row", 10), ("get_row", 22))
        self.assertEqual(found[-4:], [[23], [109, 10], [111, 12], [123, 24]])

    def test_until_no_row_is_left(self):
        found = run(*PAIR, ("remove_row", 0), ("remove_row", 0), ("remove_row", 0), ("rank",))
        self.assertEqual(found[-4:], [[1], [0], [-2], [0, 0]])

    def test_no_such_row(self):
        for index in (2, 3, 24, 2147483648, LARGE):
            self.refused(("remove_row", index), -2)
        self.assertEqual(last(("create", 1), ("remove_row", 0)), [-2])


class SetResponse(StateCase):
    def test_answers_the_previous_one(self):
        found = run(*PAIR, ("set_response", 1, 20), ("set_response", 1, 30), *LOOK)
        self.assertEqual(found[-6:], [[-8], [20], [7, 1, 0], [30, 1, 5], [-2], [2, 0]])

    def test_the_first_row(self):
        found = run(*PAIR, ("set_response", 0, 20), *LOOK)
        self.assertEqual(found[-5:], [[7], [20, 1, 0], [-8, 1, 5], [-2], [2, 0]])

    def test_previous_responses_that_look_like_errors(self):
        calls = [("create", 1), ("add_row", -2, [1])]
        values = [-11, -22, -28, -33, 0]
        found = run(*calls, *[("set_response", 0, value) for value in values], ("get_row", 0))
        self.assertEqual(found[2:], [[-2], [-11], [-22], [-28], [-33], [0, 1]])

    def test_the_largest_responses(self):
        found = run(*PAIR, ("set_response", 0, 1000000), ("set_response", 0, -1000000),
                    ("get_row", 0))
        self.assertEqual(found[-3:], [[7], [1000000], [-1000000, 1, 0]])

    def test_the_fit_follows(self):
        found = run(*PAIR, ("set_response", 1, 12), ("coefficients",))
        self.assertEqual(found[-1], [2, 7, 1, 1, 1])

    def test_responses_outside_the_range(self):
        for response in (1000001, -1000001, MOST, LEAST):
            self.refused(("set_response", 0, response), -22)
            self.refused(("set_response", 1, response), -22)

    def test_no_such_row(self):
        for index in (2, 24, LARGE):
            self.refused(("set_response", index, 5), -2)

    def test_the_row_is_checked_before_the_range(self):
        self.refused(("set_response", 2, 1000001), -2)
        self.refused(("set_response", LARGE, LEAST), -2)


class SetTerms(StateCase):
    def test_counts_the_terms(self):
        cases = [([0], 1), ([0, 0], 1), ([0, 1], 2), ([0, 0, 1], 2), ([0, 1, 1], 2),
                 ([0, 1, 2], 3), ([0, 0, 0, 1, 2, 2, 3, 3], 4),
                 ([0] * 8, 1), (list(range(8)), 8)]
        for terms, count in cases:
            self.assertEqual(run(("create", len(terms)), ("set_terms", terms)), [[0], [count]])

    def test_rows_stay(self):
        self.assertEqual(run(*PAIR, ("set_terms", [0, 0]), *LOOK)[-4:], PAIR_STANDS)

    def test_the_sums_of_squares_follow(self):
        # Each column alone explains the square of one response.
        rows = [[1, 0, 0], [0, 1, 0], [0, 0, 1]]
        model = built(3, rows, [2, 3, 5])
        apart = [3, 1, 4, 1, 1, 9, 1, 1, 25, 1]
        found = run(*model, ("sequential",), ("set_terms", [0, 0, 1]), ("sequential",),
                    ("set_terms", [0, 1, 1]), ("sequential",), ("set_terms", [0, 2, 2]),
                    ("sequential",), ("create", 0), ("sequential",), ("clear",),
                    ("summary",), *model, ("sequential",))
        self.assertEqual(found[4:12], [apart, [2], [2, 2, 13, 1, 1, 25, 1], [2],
                                       [2, 1, 4, 1, 2, 34, 1], [-22],
                                       [2, 1, 4, 1, 2, 34, 1], [-22]])
        self.assertEqual(found[12:15], [[2, 1, 4, 1, 2, 34, 1], [3], [3, 0, 2]])
        # A new start makes each column a term of its own again.
        self.assertEqual(found[-1], apart)

    def test_terms_that_start_wrong(self):
        for terms in ([1, 1], [1, 2], [1, 0], [2, 2], [LARGE, LARGE], [LARGE, 0]):
            self.refused(("set_terms", terms), -22)
        self.assertEqual(last(("create", 1), ("set_terms", [1])), [-22])

    def test_terms_that_jump(self):
        self.refused(("set_terms", [0, 2]), -22)
        self.refused(("set_terms", [0, LARGE]), -22)
        for terms in ([0, 1, 3], [0, 0, 2], [0, 2, 2], [0, 2, 3]):
            self.assertEqual(last(("create", 3), ("set_terms", terms)), [-22])

    def test_terms_that_fall(self):
        for terms in ([0, 1, 0], [0, 1, 2, 1], [0, 1, 1, 0]):
            self.assertEqual(last(("create", len(terms)), ("set_terms", terms)), [-22])

    def test_other_lengths(self):
        for length in (0, 1, 3, 60):
            self.refused(("set_terms", [0] * length), -22)

    def test_the_terms_that_are_kept(self):
        # No call tells the terms as they stand, so the model is asked itself.
        model = Model()
        STATE_OPERATIONS[0](model, [3])
        self.assertEqual(model.terms, [0, 1, 2])
        STATE_OPERATIONS[4](model, [[0, 0, 1]])
        self.assertEqual(model.terms, [0, 0, 1])
        STATE_OPERATIONS[4](model, [[0, 2, 2]])
        STATE_OPERATIONS[0](model, [9])
        self.assertEqual(model.terms, [0, 0, 1])
        STATE_OPERATIONS[5](model, [])
        self.assertEqual(model.terms, [0, 0, 1])
        STATE_OPERATIONS[0](model, [3])
        self.assertEqual(model.terms, [0, 1, 2])


class Clear(StateCase):
    def test_answers_how_many_there_were(self):
        self.assertEqual(run(*PAIR, ("clear",), ("clear",), *LOOK)[-6:],
                         [[2], [0], [-2], [-2], [-2], [0, 0]])
        self.assertEqual(run(*full(), ("clear",), ("add_row", 5, [6]))[-2:], [[24], [1]])

    def test_columns_stay(self):
        found = run(*PAIR, ("clear",), ("add_row", 1, [1]), ("add_row", 1, [1, 1]))
        self.assertEqual(found[-2:], [[-22], [1]])

    def test_without_rows(self):
        self.assertEqual(run(("create", 1), ("clear",)), [[0], [0]])


class GetRow(StateCase):
    def test_the_first_and_the_last_row(self):
        found = run(*full(3), ("get_row", 0), ("get_row", 23))
        self.assertEqual(found[-2:], [[100, 1, 0, 0], [123, 24, 0, 0]])

    def test_no_such_row(self):
        for index in (2, 24, 2147483648, LARGE):
            self.refused(("get_row", index), -2)
        self.assertEqual(last(("create", 8), ("get_row", 0)), [-2])
        self.assertEqual(last(*full(), ("get_row", 24)), [-2])


class Summary(FitCase):
    def test_ordinary(self):
        self.check(PAIR, (("summary",), [2, 2, 2]))
        self.check(PAIR + [("set_terms", [0, 0])], (("summary",), [2, 2, 1]))

    def test_the_numbers_are_told_in_their_order(self):
        model = built(8, [[1] * 8] * 5, [0] * 5) + [("set_terms", [0, 0, 1, 1, 1, 2, 2, 2])]
        self.check(model, (("summary",), [8, 5, 3]))

    def test_no_rows(self):
        for width in range(1, 9):
            self.check([("create", width)], (("summary",), [width, 0, width]))

    def test_as_many_rows_as_there_may_be(self):
        self.check(full(3), (("summary",), [3, 24, 3]))

    def test_the_state_is_followed(self):
        found = run(*PAIR, ("add_row", 1, [2, 2]), ("summary",), ("remove_row", 0),
                    ("remove_row", 0), ("summary",), ("set_terms", [0, 0]), ("clear",),
                    ("summary",), ("create", 4), ("summary",), ("create", 9), ("summary",))
        self.assertEqual(found[len(PAIR):], [[3], [2, 3, 2], [2], [1], [2, 1, 2], [1], [1],
                                             [2, 0, 1], [0], [4, 0, 4], [-22], [4, 0, 4]])


if __name__ == "__main__":
    unittest.main()
