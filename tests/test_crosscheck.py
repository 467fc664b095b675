"""The program beside a computation of another kind, on many models, and the
document's requirements 1 and 2."""

import unittest
from fractions import Fraction

from reference import Reference, told
from support import built, run


class Numbers:
    """Whole numbers that look mixed and are the same each time."""

    def __init__(self, seed):
        self.state = seed * 7919 + 1

    def within(self, least, most):
        self.state = (self.state * 1103515245 + 12345) % 2 ** 31
        return least + (self.state >> 8) % (most - least + 1)

    def row(self, width, bound):
        return [self.within(-bound, bound) for place in range(width)]


def mixed_model(seed):
    """Rows of which some are sums of others, so that all ranks come about."""
    numbers = Numbers(seed)
    width = 1 + seed % 8
    bound = (1, 3, 30, 1000)[seed // 8 % 4]
    count = numbers.within(0, 12) if seed % 5 else 24
    rows = []
    for index in range(count):
        if len(rows) >= 2 and numbers.within(0, 2) == 0:
            first, second = rows[numbers.within(0, index - 1)], rows[index - 1]
            row = [max(-1000, min(1000, a - b)) for a, b in zip(first, second)]
        else:
            row = numbers.row(width, bound)
        if numbers.within(0, 1) and seed % 3 == 0:
            row[width - 1] = row[0]
        rows.append(row)
    responses = numbers.row(count, (5, 1000000)[seed % 2])
    vectors = [numbers.row(width, bound) for turn in range(3)] + rows[:3] + [[0] * width]
    return width, rows, responses, vectors


def expected_rest(reference, vectors, responses):
    """What estimate, squared_ratio, covariance and fitted are to answer."""
    rest = []
    estimable = {tuple(v): reference.shares(v) is not None for v in vectors}
    for vector in vectors:
        if not estimable[tuple(vector)]:
            rest.extend([[-33], [-33]])
            continue
        value, factor = reference.estimate(vector), reference.factor(vector, vector)
        rest.append([0] + told(value, factor))
        whole = reference.residual_sum * factor
        if reference.freedom == 0 or whole == 0:
            rest.append([-33])
        else:
            rest.append([0] + told(value ** 2 * reference.freedom / whole))
    for first, second in zip(vectors, vectors[1:]):
        if estimable[tuple(first)] and estimable[tuple(second)]:
            rest.append([0] + told(reference.factor(first, second)))
        else:
            rest.append([-33])
    for fitted, residual in zip(reference.fitted, reference.residuals):
        rest.append([0] + told(fitted, residual))
    return rest


def asked(vectors, row_count):
    calls = []
    for vector in vectors:
        calls.extend([("estimate", vector), ("squared_ratio", vector)])
    calls.extend([("covariance", a, b) for a, b in zip(vectors, vectors[1:])])
    calls.extend([("fitted", index) for index in range(row_count)])
    return calls


class Crosscheck(unittest.TestCase):
    def test_many_models(self):
        short = 0
        for seed in range(160):
            width, rows, responses, vectors = mixed_model(seed)
            reference = Reference(width, rows, responses)
            short += reference.rank < width
            expected = [[reference.rank, reference.freedom]]
            units = [[int(a == b) for b in range(width)] for a in range(width)]
            if reference.rank < width:
                expected.append([-33])
            else:
                parts = told(*[reference.estimate(unit) for unit in units])
                expected.append([width] + parts)
            expected.extend(expected_rest(reference, vectors, responses))
            calls = [("rank",), ("coefficients",)] + asked(vectors, len(rows))
            found = run(*built(width, rows, responses), *calls)[1 + len(rows):]
            with self.subTest(seed=seed):
                self.assertEqual(found, expected)
        # Both kinds of models are among them.
        self.assertTrue(20 < short < 140)


class Requirements(unittest.TestCase):
    def residuals(self, width, rows, responses):
        calls = [("fitted", index) for index in range(len(rows))]
        found = run(*built(width, rows, responses), *calls)[1 + len(rows):]
        return [Fraction(answer[3], answer[4]) for answer in found]

    def test_entries_times_residuals_add_up_to_zero(self):
        for seed in range(60):
            width, rows, responses, vectors = mixed_model(seed)
            residuals = self.residuals(width, rows, responses)
            for place in range(width):
                whole = sum(row[place] * rest for row, rest in zip(rows, residuals))
                self.assertEqual(whole, 0)

    def test_no_other_coefficients_are_better(self):
        rows = [[1, 0, 2], [1, 1, -1], [1, 2, 0], [1, 1, 4], [1, 5, 5]]
        responses = [1, 3, 4, 4, -6]
        answer = run(*built(3, rows, responses), ("coefficients",))[-1]
        best = [Fraction(a, b) for a, b in zip(answer[1::2], answer[2::2])]
        smallest = square_sum(rows, responses, best)
        for place in range(3):
            for step in (Fraction(1, 1000), Fraction(-1, 1000), Fraction(3)):
                other = list(best)
                other[place] += step
                self.assertGreater(square_sum(rows, responses, other), smallest)

    def test_every_solution_has_the_same_estimate(self):
        rows = [[1, 1, 0], [1, 1, 0], [1, 0, 1], [1, 0, 1], [1, 0, 1]]
        model = built(3, rows, [1, 2, 4, 6, 9])
        means = (Fraction(3, 2), Fraction(19, 3))
        for vector in ([1, 1, 0], [1, 0, 1], [0, 1, -1], [0, -7, 7], [2, 1, 1], [1000, 0, 1000]):
            found = run(*model, ("estimate", vector))[-1]
            for shift in (0, 1, Fraction(-5, 7), 1000):
                solution = [shift, means[0] - shift, means[1] - shift]
                value = sum(a * b for a, b in zip(vector, solution))
                self.assertEqual(Fraction(found[1], found[2]), value)

    def test_the_order_of_the_rows_does_not_matter(self):
        for seed in range(40):
            width, rows, responses, vectors = mixed_model(seed)
            calls = asked(vectors, 0) + [("rank",), ("coefficients",)]
            ahead = run(*built(width, rows, responses), *calls)
            back = run(*built(width, rows[::-1], responses[::-1]), *calls)
            self.assertEqual(ahead, back)


def square_sum(rows, responses, coefficients):
    whole = 0
    for row, response in zip(rows, responses):
        whole += (response - sum(a * b for a, b in zip(row, coefficients))) ** 2
    return whole


if __name__ == "__main__":
    unittest.main()
