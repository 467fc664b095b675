"""Least squares for given rows and responses."""

from linearfits.exact import difference, dot, quotient, rank_of, solved


class Fit:
    """The normal equations of the rows, and a solution of them."""

    def __init__(self, products, moments, response_squares, row_count):
        self.products = products
        self.moments = moments
        self.response_squares = response_squares
        self.row_count = row_count
        self.solution = solved(products, moments)
        # The products have the rank of the rows, and are there without rows too.
        self.rank = rank_of(products, len(products))
        self.freedom = row_count - self.rank

    def part(self, columns):
        """The fit with these columns only."""
        products = [[self.products[left][right] for right in columns] for left in columns]
        moments = [self.moments[left] for left in columns]
        return Fit(products, moments, self.response_squares, self.row_count)

    def weights(self, vector):
        """A solution z of M z = vector, or None if the vector isn't estimable."""
        return solved(self.products, vector)

    def leverage(self, row):
        """The variance factor of one of the rows."""
        return self.weights(row).times(row)

    def estimate(self, vector):
        return self.solution.times(vector)

    def residual_sum(self):
        explained = self.solution.times(self.moments)
        return difference([self.response_squares, 1], explained)

    def variance(self):
        """The variance estimate, or None without freedom."""
        if self.freedom == 0:
            return None
        return quotient(self.residual_sum(), [self.freedom, 1])


def fit_of(width, rows, responses):
    columns = [[row[place] for row in rows] for place in range(width)]
    products = [[dot(left, right) for right in columns] for left in columns]
    moments = [dot(column, responses) for column in columns]
    return Fit(products, moments, dot(responses, responses), len(rows))
