"""The stationary point of a quadratic surface."""

import unittest
from fractions import Fraction

from support import LARGE, LEAST, LINE, MOST, FitCase, built, last, run

MODELS = (LINE, [("create", 1)], built(8, [[0] * 8], [5]))
MILLION = 1000000
# Surfaces that are right, one for each number of variables.
RIGHT = [
    ("stationary", 1, 5, [4], [2]),
    ("stationary", 2, 5, [-2, -4], [1, 0, 1]),
    ("stationary", 3, 5, [0, 0, 0], [1, 0, 0, 1, 0, 1]),
]


def with_part(call, part, value):
    """The call with another constant (2), linear (3) or quadratic (4)."""
    return call[:part] + (value,) + call[part + 1:]


class StationaryCase(FitCase):
    def tells(self, variables, constant, linear, quadratic, expected):
        """The answer, whatever rows there are."""
        call = ("stationary", variables, constant, linear, quadratic)
        for model in MODELS:
            self.check(model, (call, expected))

    def refuses(self, call, code):
        for model in MODELS:
            self.check_stands(model, call, code)


class OneVariable(StationaryCase):
    def test_minimum(self):
        self.tells(1, 7, [-6], [3], [0, 1, 1, 4, 1])
        self.tells(1, 0, [1], [1], [0, -1, 2, -1, 4])
        self.tells(1, -5, [0], [9], [0, 0, 1, -5, 1])

    def test_maximum(self):
        self.tells(1, 7, [6], [-3], [1, 1, 1, 10, 1])
        self.tells(1, 1, [1], [-2], [1, 1, 4, 9, 8])

    def test_degenerate(self):
        for linear in (-1, 0, 1, MILLION):
            self.refuses(("stationary", 1, 0, [linear], [0]), -33)

    def test_the_ends_of_the_ranges(self):
        self.tells(1, MILLION, [MILLION], [MILLION], [0, -1, 2, 750000, 1])
        self.tells(1, -MILLION, [-MILLION], [-MILLION], [1, -1, 2, -750000, 1])
        self.tells(1, -MILLION, [MILLION], [1], [0, -500000, 1, -250001000000, 1])
        self.tells(1, MILLION, [-MILLION], [-1], [1, -500000, 1, 250001000000, 1])


class TwoVariables(StationaryCase):
    def test_minimum(self):
        self.tells(2, 5, [-2, -4], [1, 0, 1], [0, 1, 1, 2, 1, 0, 1])
        # The squares of x + y and x - 2y, added up.
        self.tells(2, 1, [-3, 0], [2, -2, 5], [0, 5, 6, 1, 6, -1, 4])

    def test_maximum(self):
        self.tells(2, 0, [2, 4], [-1, 0, -1], [1, 1, 1, 2, 1, 5, 1])
        self.tells(2, -1, [3, 0], [-2, 2, -5], [1, 5, 6, 1, 6, 1, 4])

    def test_saddle(self):
        self.tells(2, 0, [0, 0], [0, 1, 0], [2, 0, 1, 0, 1, 0, 1])
        self.tells(2, 0, [2, 2], [1, 0, -1], [2, -1, 1, 1, 1, 0, 1])
        self.tells(2, 0, [2, 2], [-1, 0, 1], [2, 1, 1, -1, 1, 0, 1])
        # Both ways alone go up, or both down, but not between them.
        self.tells(2, 3, [1, 1], [1, 3, 1], [2, -1, 5, -1, 5, 14, 5])
        self.tells(2, 3, [1, 1], [-1, 3, -1], [2, -1, 1, -1, 1, 2, 1])

    def test_a_determinant_of_minus_one(self):
        self.tells(2, 0, [0, 1], [1, 1, 0], [2, -1, 1, 2, 1, 1, 1])
        self.tells(2, 4, [0, 0], [1, 1, 0], [2, 0, 1, 0, 1, 4, 1])

    def test_a_first_minor_of_zero(self):
        self.tells(2, 0, [0, 4], [0, -2, 1], [2, 2, 1, 0, 1, 0, 1])
        self.tells(2, 0, [1, 0], [0, 1, -1], [2, -2, 1, -1, 1, -1, 1])

    def test_degenerate(self):
        for quadratic in ([0, 0, 0], [1, 0, 0], [0, 0, -1], [1, 2, 1], [1, -2, 1], [-4, 4, -1]):
            for linear in ([0, 0], [1, -1], [MILLION, MILLION]):
                self.refuses(("stationary", 2, 0, linear, quadratic), -33)

    def test_nearly_degenerate(self):
        self.tells(2, 0, [1, 1], [1, 1, 1], [0, -1, 3, -1, 3, -1, 3])
        self.tells(2, 0, [1, 0], [500000, 999999, 500000],
                   [0, -1000000, 1999999, 999999, 1999999, -500000, 1999999])
        self.tells(2, 0, [1, 0], [250000, MILLION, 999999],
                   [2, 999999, 500000, -1, 1, 999999, 1000000])

    def test_the_ends_of_the_ranges(self):
        low = -MILLION
        self.tells(2, MILLION, [MILLION, low], [MILLION, low, MILLION],
                   [0, -1, 3, 1, 3, 2000000, 3])
        self.tells(2, low, [low, MILLION], [low, MILLION, low], [1, -1, 3, 1, 3, -2000000, 3])


class ThreeVariables(StationaryCase):
    def test_minimum(self):
        self.tells(3, 14, [-2, -4, -6], [1, 0, 0, 1, 0, 1], [0, 1, 1, 2, 1, 3, 1, 0, 1])
        self.tells(3, 0, [2, 2, 2], [1, 1, 1, 1, 1, 1], [0, -1, 2, -1, 2, -1, 2, -3, 2])

    def test_maximum(self):
        self.tells(3, 0, [2, 4, 6], [-1, 0, 0, -1, 0, -1], [1, 1, 1, 2, 1, 3, 1, 14, 1])
        self.tells(3, 0, [2, 2, 2], [-1, -1, -1, -1, -1, -1], [1, 1, 2, 1, 2, 1, 2, 3, 2])

    def test_saddle_with_each_pattern_of_signs(self):
        for signs in ([1, 1, -1], [1, -1, 1], [-1, 1, 1], [1, -1, -1], [-1, 1, -1], [-1, -1, 1]):
            quadratic = [signs[0], 0, 0, signs[1], 0, signs[2]]
            expected = [2]
            for sign in signs:
                expected.extend([-sign, 1])
            self.tells(3, 0, [2, 2, 2], quadratic, expected + [-sum(signs), 1])

    def test_saddle_with_minors_of_zero(self):
        self.tells(3, 0, [1, 1, 1], [0, 1, 1, 0, 1, 0], [2, -1, 2, -1, 2, -1, 2, -3, 4])
        self.tells(3, 9, [0, 0, 0], [0, 1, 0, 0, 0, 1], [2, 0, 1, 0, 1, 0, 1, 9, 1])
        self.tells(3, 9, [0, 0, 0], [0, 1, 0, 0, 0, -1], [2, 0, 1, 0, 1, 0, 1, 9, 1])
        self.tells(3, 9, [0, 0, 0], [-1, 0, 0, 0, 1, 0], [2, 0, 1, 0, 1, 0, 1, 9, 1])
        self.tells(3, 9, [0, 0, 0], [0, 0, 1, 1, 0, 0], [2, 0, 1, 0, 1, 0, 1, 9, 1])
        self.tells(3, 9, [0, 0, 0], [0, 0, 1, -1, 0, 0], [2, 0, 1, 0, 1, 0, 1, 9, 1])

    def test_each_coefficient_stands_in_its_place(self):
        # Derivatives: 2x + 3y + 5z + 1, 3x + 14y + 11z + 2, 5x + 11y + 26z + 4.
        self.tells(3, 6, [1, 2, 4], [1, 3, 5, 7, 11, 13],
                   [0, -49, 232, -3, 232, -25, 232, 2629, 464])

    def test_degenerate(self):
        cases = ([0] * 6, [1, 0, 0, 1, 0, 0], [1, 0, 0, 0, 0, 1], [0, 0, 0, 1, 0, 1],
                 [1, 2, 2, 1, 2, 1], [1, 0, 2, 1, 0, 1], [0, 1, 0, 0, 0, 0], [0, 1, 1, 0, 0, 0])
        for quadratic in cases:
            for linear in ([0, 0, 0], [1, -1, 5]):
                self.refuses(("stationary", 3, 0, linear, quadratic), -33)

    def test_numbers_beyond_64_bits(self):
        linear = [999999, -1000000, 999983]
        quadratic = [999979, 1000000, -999961, 999959, 999953, -1000000]
        call = ("stationary", 3, 1000000, linear, quadratic)
        answer = last(*LINE, call)
        self.assertGreater(max(abs(number) for number in answer), 2 ** 64)
        self.assertEqual(len(answer), 9)
        x, y, z = [Fraction(answer[k], answer[k + 1]) for k in (1, 3, 5)]
        a, b, c, d, e, f = quadratic
        self.assertEqual(linear[0] + 2 * a * x + b * y + c * z, 0)
        self.assertEqual(linear[1] + b * x + 2 * d * y + e * z, 0)
        self.assertEqual(linear[2] + c * x + e * y + 2 * f * z, 0)
        value = (1000000 + linear[0] * x + linear[1] * y + linear[2] * z
                 + a * x * x + b * x * y + c * x * z + d * y * y + e * y * z + f * z * z)
        self.assertEqual(Fraction(answer[7], answer[8]), value)
        for numerator, denominator in zip(answer[1::2], answer[2::2]):
            whole = Fraction(numerator, denominator)
            self.assertEqual((numerator, denominator), (whole.numerator, whole.denominator))


class Errors(StationaryCase):
    def test_other_numbers_of_variables(self):
        for variables in (0, 4, 5, 60, 2147483648, LARGE):
            self.refuses(("stationary", variables, 5, [1], [1]), -22)
            self.refuses(("stationary", variables, 5, [], []), -22)
        self.refuses(("stationary", 4, 0, [0] * 4, [1, 0, 0, 0, 1, 0, 0, 1, 0, 1]), -22)

    def test_the_lists_of_another_number_of_variables(self):
        for call in RIGHT:
            for other in RIGHT:
                if call != other:
                    self.refuses(call[:1] + (other[1],) + call[2:], -22)
                    self.refuses(with_part(call, 3, other[3]), -22)
                    self.refuses(with_part(call, 4, other[4]), -22)

    def test_other_lengths(self):
        for call in RIGHT:
            for part in (3, 4):
                for length in range(61):
                    if length != len(call[part]):
                        wrong = with_part(call, part, [0] * length)
                        self.assertEqual(last(*LINE, wrong), [-22])
                for length in (0, len(call[part]) - 1, len(call[part]) + 1, 60):
                    self.refuses(with_part(call, part, [0] * length), -22)

    def test_numbers_outside_the_range(self):
        for call in RIGHT:
            for number in (MILLION + 1, -MILLION - 1, MOST, LEAST):
                self.refuses(with_part(call, 2, number), -22)
                for part in (3, 4):
                    for place in range(len(call[part])):
                        changed = list(call[part])
                        changed[place] = number
                        self.refuses(with_part(call, part, changed), -22)

    def test_the_right_surfaces_are_answered(self):
        expected = ([0, -1, 1, 3, 1], [0, 1, 1, 2, 1, 0, 1], [0, 0, 1, 0, 1, 0, 1, 5, 1])
        for call, answer in zip(RIGHT, expected):
            self.tells(*call[1:], answer)

    def test_the_range_is_checked_before_the_degenerate_surface(self):
        self.refuses(("stationary", 1, MILLION + 1, [1], [0]), -22)
        self.refuses(("stationary", 1, 0, [-MILLION - 1], [0]), -22)
        self.refuses(("stationary", 2, 0, [0, MILLION + 1], [0, 0, 0]), -22)
        self.refuses(("stationary", 2, 0, [0], [0, 0, 0]), -22)
        self.refuses(("stationary", 2, 0, [0, 0], [0, 0]), -22)

    def test_before_create(self):
        for call in RIGHT + [("stationary", 9, 0, [], []), ("stationary", 1, 0, [1], [0])]:
            self.assertEqual(run(call), [[-11]])


if __name__ == "__main__":
    unittest.main()
