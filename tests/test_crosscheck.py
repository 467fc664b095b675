"""The calls 7 to 12 beside a computation of another kind, on many models."""

import unittest

from mixed import mixed_model
from reference import Reference, told
from support import built, run


def expected_rest(reference, vectors, responses):
    """What estimate, squared_ratio, covariance and fitted are to answer."""
    rest = []
    estimable = {tuple(v): reference.shares(v) is not None for v in vectors}
    for vector in vectors:
        if not estimable[tuple(vector)]:
            rest.extend([[-33], [-33]])
            continue
        value, factor = reference.estimate(vector), reference.factor(vector, vector)
        rest.append([0] + told(value, factor))
        whole = reference.residual_sum * factor
        if reference.freedom == 0 or whole == 0:
            rest.append([-33])
        else:
            rest.append([0] + told(value ** 2 * reference.freedom / whole))
    for first, second in zip(vectors, vectors[1:]):
        if estimable[tuple(first)] and estimable[tuple(second)]:
            rest.append([0] + told(reference.factor(first, second)))
        else:
            rest.append([-33])
    for fitted, residual in zip(reference.fitted, reference.residuals):
        rest.append([0] + told(fitted, residual))
    return rest


def asked(vectors, row_count):
    calls = []
    for vector in vectors:
        calls.extend([("estimate", vector), ("squared_ratio", vector)])
    calls.extend([("covariance", a, b) for a, b in zip(vectors, vectors[1:])])
    calls.extend([("fitted", index) for index in range(row_count)])
    return calls


class Crosscheck(unittest.TestCase):
    def test_many_models(self):
        short = 0
        for seed in range(160):
            width, rows, responses, vectors = mixed_model(seed)
            reference = Reference(width, rows, responses)
            short += reference.rank < width
            expected = [[reference.rank, reference.freedom]]
            units = [[int(a == b) for b in range(width)] for a in range(width)]
            if reference.rank < width:
                expected.append([-33])
            else:
                parts = told(*[reference.estimate(unit) for unit in units])
                expected.append([width] + parts)
            expected.extend(expected_rest(reference, vectors, responses))
            calls = [("rank",), ("coefficients",)] + asked(vectors, len(rows))
            found = run(*built(width, rows, responses), *calls)[1 + len(rows):]
            with self.subTest(seed=seed):
                self.assertEqual(found, expected)
        # Both kinds of models are among them.
        self.assertTrue(20 < short < 140)


if __name__ == "__main__":
    unittest.main()
