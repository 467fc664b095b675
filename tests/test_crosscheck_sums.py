"""The calls 13 to 23 and 25 beside a computation of another kind, on many models."""

import unittest
from fractions import Fraction

from mixed import varied_model
from reference import Reference, inner, minus_projection, told
from support import built, run


class Expected:
    """What the calls are to answer, from the document's words."""

    def __init__(self, width, rows, responses, terms):
        self.width = width
        self.rows = rows
        self.responses = responses
        self.terms = terms
        self.whole = self.part(range(width))

    def part(self, columns):
        rows = [[row[column] for column in columns] for row in self.rows]
        return Reference(len(rows[0]) if rows else 0, rows, self.responses)

    def gain(self, smaller, larger):
        lost = smaller.residual_sum - larger.residual_sum
        return [larger.rank - smaller.rank] + told(lost)

    def columns(self, wanted):
        return [column for column, term in enumerate(self.terms) if wanted(term)]

    def sequential(self, term):
        return self.gain(self.part(self.columns(lambda own: own < term)),
                         self.part(self.columns(lambda own: own <= term)))

    def marginal(self, term):
        return self.gain(self.part(self.columns(lambda own: own != term)), self.whole)

    def f_ratio(self, term):
        degrees, numerator, denominator = self.marginal(term)
        below = self.whole.residual_sum * degrees
        if self.whole.freedom == 0 or below == 0:
            return [-33]
        return [0] + told(Fraction(numerator, denominator) * self.whole.freedom / below)

    def variance_estimate(self):
        if self.whole.freedom == 0:
            return [-33]
        return [0] + told(self.whole.residual_sum / self.whole.freedom)

    def lack_of_fit(self):
        groups = []
        pure = Fraction(0)
        for row in self.rows:
            if row not in groups:
                groups.append(row)
        for row in groups:
            own = [y for other, y in zip(self.rows, self.responses) if other == row]
            mean = Fraction(sum(own), len(own))
            pure += sum((y - mean) ** 2 for y in own)
        degrees = len(self.rows) - len(groups)
        lack = self.whole.residual_sum - pure
        return [self.whole.freedom - degrees] + told(lack) + [degrees] + told(pure)

    def leverage(self, index):
        unit = [int(place == index) for place in range(len(self.rows))]
        return 1 - minus_projection(unit, self.whole.basis)[index]

    def of_row(self, index):
        """What leverage, deleted and lost_value answer."""
        leverage = self.leverage(index)
        rows = self.rows[:index] + self.rows[index + 1:]
        others = Reference(self.width, rows, self.responses[:index] + self.responses[index + 1:])
        if others.shares(self.rows[index]) is None:
            lost = [-33]
        else:
            lost = [0] + told(others.estimate(self.rows[index]))
        if leverage == 1:
            deleted = [-33]
        else:
            deleted = [0] + told(self.whole.residuals[index] / (1 - leverage))
        return [[0] + told(leverage), deleted, lost]

    def predict(self, vector):
        if self.whole.shares(vector) is None:
            return [-33]
        factor = self.whole.factor(vector, vector)
        return [0] + told(self.whole.estimate(vector), 1 + factor)

    def normal_equations(self):
        numbers = [self.width]
        columns = [[row[place] for row in self.rows] for place in range(self.width)]
        for column in columns:
            for other in columns + [self.responses]:
                numbers.append(int(inner(column, other)))
        return numbers

    def answers(self, vectors):
        found = [[self.whole.freedom] + told(self.whole.residual_sum), self.variance_estimate()]
        terms = range(self.terms[-1] + 1)
        for sums in (self.sequential, self.marginal):
            found.append([len(terms)] + [number for term in terms for number in sums(term)])
        found.extend([self.f_ratio(term) for term in terms] + [[-2], self.lack_of_fit()])
        for index in range(len(self.rows)):
            found.extend(self.of_row(index))
        found.extend([self.predict(vector) for vector in vectors])
        found.append(self.normal_equations())
        found.append([self.width, len(self.rows), len(terms)])
        return found


def asked(row_count, terms, vectors):
    calls = [("residual_sum",), ("variance_estimate",), ("sequential",), ("marginal",)]
    calls.extend([("f_ratio", term) for term in range(terms[-1] + 2)])
    calls.append(("lack_of_fit",))
    for index in range(row_count):
        calls.extend([("leverage", index), ("deleted", index), ("lost_value", index)])
    calls.extend([("predict", vector) for vector in vectors])
    return calls + [("normal_equations",), ("summary",)]


class CrosscheckSums(unittest.TestCase):
    def test_many_models(self):
        seen = {"short": 0, "no rows": 0, "no freedom": 0, "exact": 0, "equal": 0, "tight": 0}
        for seed in range(120):
            width, rows, responses, vectors, terms = varied_model(seed)
            expected = Expected(width, rows, responses, terms)
            calls = asked(len(rows), terms, vectors)
            model = built(width, rows, responses) + [("set_terms", terms)]
            found = run(*model, *calls)[len(model):]
            with self.subTest(seed=seed):
                self.assertEqual(found, expected.answers(vectors))
            whole = expected.whole
            leverages = [expected.leverage(index) for index in range(len(rows))]
            seen["short"] += whole.rank < width
            seen["no rows"] += rows == []
            seen["no freedom"] += rows != [] and whole.freedom == 0
            seen["exact"] += whole.freedom > 0 and whole.residual_sum == 0
            seen["equal"] += expected.lack_of_fit()[3] > 0 and whole.residual_sum > 0
            seen["tight"] += whole.freedom > 0 and 1 in leverages
        # Models of each kind are among them.
        self.assertGreaterEqual(min(seen.values()), 5, seen)


if __name__ == "__main__":
    unittest.main()
