"""Fractions and linear equations by themselves."""

import unittest

from linearfits.exact import determinant, difference, lowest_terms, quotient, rank_of, solved


class LowestTerms(unittest.TestCase):
    def test_reduced_with_a_positive_denominator(self):
        cases = [((6, 4), [3, 2]), ((-6, 4), [-3, 2]), ((6, -4), [-3, 2]),
                 ((-6, -4), [3, 2]), ((5, 1), [5, 1]), ((7, 7), [1, 1]),
                 ((5, -1), [-5, 1]), ((0, -1), [0, 1]), ((0, 5), [0, 1]), ((0, -5), [0, 1]),
                 ((2 ** 200, -(2 ** 70) * 3), [-(2 ** 130), 3])]
        for pair, expected in cases:
            self.assertEqual(lowest_terms(*pair), expected)


class Arithmetic(unittest.TestCase):
    def test_difference(self):
        cases = [([1, 2], [1, 3], [1, 6]), ([1, 3], [1, 2], [-1, 6]), ([5, 6], [5, 6], [0, 1]),
                 ([0, 1], [-7, 4], [7, 4]), ([5, 6], [1, 3], [1, 2])]
        for first, second, expected in cases:
            self.assertEqual(difference(first, second), expected)

    def test_quotient(self):
        cases = [([1, 2], [1, 3], [3, 2]), ([1, 2], [-1, 3], [-3, 2]), ([-1, 2], [-3, 4], [2, 3]),
                 ([0, 1], [-7, 4], [0, 1])]
        for first, second, expected in cases:
            self.assertEqual(quotient(first, second), expected)


class Determinant(unittest.TestCase):
    def test_determinants(self):
        cases = [([], 1), ([[-7]], -7), ([[1, 2], [3, 4]], -2), ([[0, 1], [1, 0]], -1),
                 ([[2, 3, 5], [7, 11, 13], [17, 19, 23]], -78), ([[1, 2], [2, 4]], 0),
                 ([[0, 0, 1], [1, 0, 0], [0, 1, 0]], 1)]
        for matrix, expected in cases:
            self.assertEqual(determinant(matrix), expected)

    def test_what_is_handed_in_stays(self):
        matrix = [[2, 3, 5], [7, 11, 13], [17, 19, 23]]
        determinant(matrix)
        self.assertEqual(matrix, [[2, 3, 5], [7, 11, 13], [17, 19, 23]])


class Solved(unittest.TestCase):
    def test_rows_that_change_places(self):
        matrix = [[0, 2, 1], [3, 0, 0], [0, 0, -5]]
        found = solved(matrix, [1, 2, 3])
        self.assertEqual(found.fractions(), [2, 3, 4, 5, -3, 5])
        self.assertEqual(found.times([3, 5, 10]), [0, 1])

    def test_one_of_many_solutions(self):
        found = solved([[1, 2], [2, 4]], [3, 6])
        self.assertEqual(found.times([1, 2]), [3, 1])

    def test_no_solution(self):
        self.assertIsNone(solved([[1, 2], [2, 4]], [3, 5]))
        self.assertIsNone(solved([[0]], [1]))

    def test_what_is_handed_in_stays(self):
        matrix = [[0, 2], [3, 1]]
        target = [1, 5]
        solved(matrix, target)
        rank_of(matrix, 2)
        self.assertEqual((matrix, target), ([[0, 2], [3, 1]], [1, 5]))


class Rank(unittest.TestCase):
    def test_rank(self):
        self.assertEqual(rank_of([], 3), 0)
        self.assertEqual(rank_of([[0, 0, 0]], 3), 0)
        self.assertEqual(rank_of([[0, 0, 4], [0, 0, 5]], 3), 1)
        self.assertEqual(rank_of([[1, 2, 3], [4, 5, 6], [7, 8, 9]], 3), 2)
        self.assertEqual(rank_of([[0, 1, 0], [1, 0, 0], [0, 0, 1]], 3), 3)


if __name__ == "__main__":
    unittest.main()
