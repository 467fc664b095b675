"""Least squares by another way than the program's: projection of lists of one
number for each row onto the space that the columns span, by Gram-Schmidt."""

from fractions import Fraction


def inner(first, second):
    return sum((a * b for a, b in zip(first, second)), Fraction(0))


def orthogonal(lists):
    """Orthogonal lists that span what the given ones span."""
    basis = []
    for one in lists:
        rest = minus_projection(one, basis)
        if any(rest):
            basis.append(rest)
    return basis


def minus_projection(one, basis):
    rest = [Fraction(number) for number in one]
    for other in basis:
        share = inner(rest, other) / inner(other, other)
        rest = [a - share * b for a, b in zip(rest, other)]
    return rest


def columns_of(width, rows):
    return [[row[place] for row in rows] for place in range(width)]


class Reference:
    def __init__(self, width, rows, responses):
        self.width = width
        self.rows = rows
        self.basis = orthogonal(columns_of(width, rows))
        self.residuals = minus_projection(responses, self.basis)
        self.fitted = [y - r for y, r in zip(responses, self.residuals)]
        self.kept = None
        self.rank = len(self.basis)
        self.freedom = len(rows) - self.rank
        self.residual_sum = inner(self.residuals, self.residuals)

    def with_shares(self):
        """Orthogonal lists that span the rows, each with what makes it of them."""
        kept = []
        for index, row in enumerate(self.rows):
            one = [Fraction(number) for number in row]
            made = [Fraction(int(place == index)) for place in range(len(self.rows))]
            for other, parts in kept:
                share = inner(one, other) / inner(other, other)
                one = [a - share * b for a, b in zip(one, other)]
                made = [a - share * b for a, b in zip(made, parts)]
            if any(one):
                kept.append((one, made))
        return kept

    def shares(self, vector):
        """How much of each row makes the vector, or None if nothing does."""
        if self.kept is None:
            self.kept = self.with_shares()
        rest = [Fraction(number) for number in vector]
        shares = [Fraction(0) for row in self.rows]
        for other, parts in self.kept:
            share = inner(rest, other) / inner(other, other)
            rest = [a - share * b for a, b in zip(rest, other)]
            shares = [a + share * b for a, b in zip(shares, parts)]
        return None if any(rest) else shares

    def estimate(self, vector):
        return inner(self.shares(vector), self.fitted)

    def factor(self, first, second):
        """The product of the two lists of shares, projected on the columns."""
        left = self.shares(first)
        right = self.shares(second)
        projected = [a - b for a, b in zip(right, minus_projection(right, self.basis))]
        return inner(left, projected)


def told(*fractions):
    """The fractions as the document writes them."""
    numbers = []
    for fraction in fractions:
        numbers.extend([fraction.numerator, fraction.denominator])
    return numbers
