"""Least squares for given rows and responses."""

from linearfits.exact import dot, lowest_terms, rank_of, solved


class Fit:
    """The normal equations of the rows, and a solution of them."""

    def __init__(self, width, rows, responses):
        columns = [[row[place] for row in rows] for place in range(width)]
        self.products = [[dot(left, right) for right in columns] for left in columns]
        self.moments = [dot(column, responses) for column in columns]
        self.response_squares = dot(responses, responses)
        self.solution = solved(self.products, self.moments)
        # The products have the rank of the rows, and are there without rows too.
        self.rank = rank_of(self.products, width)
        self.freedom = len(rows) - self.rank

    def weights(self, vector):
        """A solution z of M z = vector, or None if the vector isn't estimable."""
        return solved(self.products, vector)

    def estimate(self, vector):
        return self.solution.times(vector)

    def residual_sum(self):
        explained = self.solution.times(self.moments)
        whole = self.response_squares * explained[1]
        return lowest_terms(whole - explained[0], explained[1])
