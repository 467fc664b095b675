"""The document's requirements 1 to 7, seen from the answers alone."""

import unittest
from fractions import Fraction

from mixed import Numbers, varied_model
from support import built, run

MODELS = 200


def asked_model(seed, *calls):
    """A varied model's rows and responses, and the answers to the calls."""
    width, rows, responses, vectors, terms = varied_model(seed)
    model = built(width, rows, responses) + [("set_terms", terms)]
    return rows, responses, run(*model, *calls)[len(model):]


def of_rows(seed, name):
    """The answers of a call on each row."""
    count = len(varied_model(seed)[1])
    return asked_model(seed, *[(name, index) for index in range(count)])


def fraction(answer, place):
    return Fraction(answer[place], answer[place + 1])


class First(unittest.TestCase):
    def test_entries_times_residuals_add_up_to_zero(self):
        for seed in range(MODELS):
            rows, responses, found = of_rows(seed, "fitted")
            residuals = [fraction(answer, 3) for answer in found]
            for column in zip(*rows):
                self.assertEqual(sum(a * b for a, b in zip(column, residuals)), 0)

    def test_no_other_coefficients_are_better(self):
        rows = [[1, 0, 2], [1, 1, -1], [1, 2, 0], [1, 1, 4], [1, 5, 5]]
        responses = [1, 3, 4, 4, -6]
        found = run(*built(3, rows, responses), ("coefficients",), ("residual_sum",))
        answer = found[-2]
        best = [Fraction(a, b) for a, b in zip(answer[1::2], answer[2::2])]
        smallest = square_sum(rows, responses, best)
        self.assertEqual(fraction(found[-1], 1), smallest)
        for place in range(3):
            for step in (Fraction(1, 1000), Fraction(-1, 1000), Fraction(3)):
                other = list(best)
                other[place] += step
                self.assertGreater(square_sum(rows, responses, other), smallest)

    def test_no_mixed_coefficients_are_better_than_the_residual_sum(self):
        for seed in range(MODELS):
            rows, responses, found = asked_model(seed, ("residual_sum",), ("summary",))
            numbers = Numbers(seed)
            for bound in (0, 1, 10, 1000):
                others = numbers.row(found[1][0], bound)
                whole = square_sum(rows, responses, others)
                self.assertGreaterEqual(whole, fraction(found[0], 1))


class Second(unittest.TestCase):
    def test_every_solution_has_the_same_estimate(self):
        rows = [[1, 1, 0], [1, 1, 0], [1, 0, 1], [1, 0, 1], [1, 0, 1]]
        model = built(3, rows, [1, 2, 4, 6, 9])
        means = (Fraction(3, 2), Fraction(19, 3))
        for vector in ([1, 1, 0], [1, 0, 1], [0, 1, -1], [0, -7, 7], [2, 1, 1], [1000, 0, 1000]):
            for name in ("estimate", "predict"):
                found = run(*model, (name, vector))[-1]
                for shift in (0, 1, Fraction(-5, 7), 1000):
                    solution = [shift, means[0] - shift, means[1] - shift]
                    value = sum(a * b for a, b in zip(vector, solution))
                    self.assertEqual(fraction(found, 1), value)

    def test_the_order_of_the_rows_does_not_matter(self):
        for seed in range(MODELS):
            width, rows, responses, vectors, terms = varied_model(seed)
            calls = [("set_terms", terms), ("rank",), ("coefficients",), ("residual_sum",),
                     ("variance_estimate",), ("sequential",), ("marginal",), ("lack_of_fit",),
                     ("normal_equations",), ("summary",), ("f_ratio", 0)]
            for vector in vectors:
                calls.extend([("estimate", vector), ("squared_ratio", vector), ("predict", vector)])
            calls.extend([("covariance", a, b) for a, b in zip(vectors, vectors[1:])])
            ahead = run(*built(width, rows, responses), *calls)
            back = run(*built(width, rows[::-1], responses[::-1]), *calls)
            self.assertEqual(ahead, back)


class Third(unittest.TestCase):
    def test_the_sums_add_up_to_the_squared_responses(self):
        for seed in range(MODELS):
            calls = [("sequential",), ("residual_sum",), ("rank",)]
            rows, responses, found = asked_model(seed, *calls)
            sums = found[0]
            whole = fraction(found[1], 1)
            for place in range(2, len(sums), 3):
                whole += fraction(sums, place)
            self.assertEqual(whole, sum(response ** 2 for response in responses))
            # So do the degrees of freedom: rank and freedom are the rows.
            self.assertEqual(sum(sums[1::3]), found[2][0])
            self.assertEqual(sum(found[2]), len(rows))


class Fourth(unittest.TestCase):
    def test_leverages_add_up_to_the_rank(self):
        for seed in range(MODELS):
            rows, responses, found = of_rows(seed, "leverage")
            leverages = [fraction(answer, 1) for answer in found]
            rank = asked_model(seed, ("rank",))[2][0][0]
            self.assertEqual(sum(leverages), rank)
            for leverage in leverages:
                self.assertTrue(0 <= leverage <= 1)


class Fifth(unittest.TestCase):
    def test_the_deleted_residual_is_the_response_minus_the_lost_value(self):
        refused = 0
        for seed in range(MODELS):
            rows, responses, deleted = of_rows(seed, "deleted")
            lost = of_rows(seed, "lost_value")[2]
            leverages = of_rows(seed, "leverage")[2]
            for index, response in enumerate(responses):
                if leverages[index] == [0, 1, 1]:
                    self.assertEqual((deleted[index], lost[index]), ([-33], [-33]))
                    refused += 1
                else:
                    rest = response - fraction(lost[index], 1)
                    self.assertEqual(fraction(deleted[index], 1), rest)
        self.assertGreater(refused, 20)


class Sixth(unittest.TestCase):
    def test_the_pure_error_is_at_most_the_residual_sum(self):
        equal = 0
        for seed in range(MODELS):
            found = asked_model(seed, ("lack_of_fit",), ("residual_sum",))[2]
            lack, pure = fraction(found[0], 1), fraction(found[0], 4)
            whole = fraction(found[1], 1)
            self.assertTrue(0 <= pure <= whole)
            self.assertEqual(lack + pure, whole)
            self.assertEqual(found[0][0] + found[0][3], found[1][0])
            self.assertGreaterEqual(found[0][0], 0)
            equal += pure > 0
        self.assertGreater(equal, 20)


class Surface:
    def __init__(self, seed):
        numbers = Numbers(seed)
        self.variables = 1 + seed % 3
        bound = (2, 2, 9, 1000000)[seed // 3 % 4]
        self.constant = numbers.within(-bound, bound)
        self.linear = numbers.row(self.variables, bound)
        self.quadratic = numbers.row(self.variables * (self.variables + 1) // 2, bound)
        self.numbers = numbers

    def call(self):
        return ("stationary", self.variables, self.constant, self.linear, self.quadratic)

    def value(self, point):
        whole = self.constant + sum(a * b for a, b in zip(self.linear, point))
        rest = list(self.quadratic)
        for first in range(self.variables):
            for second in range(first, self.variables):
                whole += rest.pop(0) * point[first] * point[second]
        return whole

    def slopes(self, point):
        """Of a quadratic surface the values a step to both sides tell the slope."""
        found = []
        for place in range(self.variables):
            ends = []
            for step in (1, -1):
                moved = list(point)
                moved[place] += step
                ends.append(self.value(moved))
            found.append(ends[0] - ends[1])
        return found

    def rises(self, point):
        """By how much the surface rises along mixed ways from the point."""
        start = self.value(point)
        found = []
        for turn in range(60):
            way = self.numbers.row(self.variables, (1, 3, 1000)[turn % 3])
            moved = [a + Fraction(b, 1 + turn) for a, b in zip(point, way)]
            if any(way):
                found.append(self.value(moved) - start)
        return found


class Seventh(unittest.TestCase):
    def test_stationary_points_of_each_kind(self):
        seen = {}
        for seed in range(600):
            surface = Surface(seed)
            answer = run(("create", 1), surface.call())[1]
            if answer == [-33]:
                continue
            self.assertEqual(len(answer), 3 + 2 * surface.variables)
            point = [fraction(answer, place) for place in range(1, len(answer) - 2, 2)]
            self.assertEqual(surface.slopes(point), [0] * surface.variables)
            self.assertEqual(fraction(answer, len(answer) - 2), surface.value(point))
            rises = surface.rises(point)
            if answer[0] == 0:
                self.assertGreater(min(rises), 0)
            elif answer[0] == 1:
                self.assertLess(max(rises), 0)
            else:
                self.assertEqual(answer[0], 2)
                self.check_saddle(surface, point)
            kind = (surface.variables, answer[0])
            seen[kind] = seen.get(kind, 0) + 1
        self.assertEqual(sorted(seen), [(1, 0), (1, 1), (2, 0), (2, 1), (2, 2),
                                        (3, 0), (3, 1), (3, 2)])
        self.assertGreater(min(seen.values()), 5, seen)

    def check_saddle(self, surface, point):
        """The signs of the squares into which the surface falls apart."""
        signs = square_signs(surface)
        self.assertTrue(1 in signs and -1 in signs, surface.call())


def square_signs(surface):
    """By completing squares, the signs of the quadratic part's squares."""
    size = surface.variables
    rest = list(surface.quadratic)
    form = [[Fraction(0)] * size for row in range(size)]
    for first in range(size):
        for second in range(first, size):
            half = Fraction(rest.pop(0), 2)
            form[first][second] += half
            form[second][first] += half
    signs = []
    while form:
        size = len(form)
        places = [place for place in range(size) if form[place][place] != 0]
        if not places:
            pair = [(a, b) for a in range(size) for b in range(size) if form[a][b] != 0][0]
            # Behind x = u + v the square of u appears.
            form = substituted(form, pair[0], pair[1])
            continue
        top = places[0]
        pivot = form[top][top]
        signs.append(1 if pivot > 0 else -1)
        others = [place for place in range(size) if place != top]
        form = [[form[a][b] - form[a][top] * form[top][b] / pivot for b in others]
                for a in others]
    return signs


def substituted(form, target, source):
    """The form with the source's row and column added to the target's."""
    rows = [list(row) for row in form]
    rows[target] = [a + b for a, b in zip(rows[target], rows[source])]
    for row in rows:
        row[target] += row[source]
    return rows


def square_sum(rows, responses, coefficients):
    whole = 0
    for row, response in zip(rows, responses):
        whole += (response - sum(a * b for a, b in zip(row, coefficients))) ** 2
    return whole


if __name__ == "__main__":
    unittest.main()
