"""Fractions and systems of linear equations over whole numbers."""


def greatest_divisor(first, second):
    while second != 0:
        rest = first % second
        first = second
        second = rest
    return first


def lowest_terms(numerator, denominator):
    """The fraction as a list of two whole numbers, the second one positive."""
    divisor = greatest_divisor(abs(numerator), abs(denominator))
    if denominator < 0:
        divisor = -divisor
    return [numerator // divisor, denominator // divisor]


def difference(first, second):
    """The second fraction taken from the first."""
    numerator = first[0] * second[1] - second[0] * first[1]
    return lowest_terms(numerator, first[1] * second[1])


def quotient(first, second):
    """The first fraction divided by the second, which isn't 0."""
    return lowest_terms(first[0] * second[1], first[1] * second[0])


def dot(first, second):
    return sum([left * right for left, right in zip(first, second)])


class Solution:
    """A solution of linear equations: numerators over one divisor."""

    def __init__(self, numerators, divisor):
        self.numerators = numerators
        self.divisor = divisor

    def times(self, vector):
        """The fraction that the solution's product with a vector is."""
        return lowest_terms(dot(vector, self.numerators), self.divisor)

    def fractions(self):
        """The solution's fractions, one behind another."""
        told = []
        for numerator in self.numerators:
            told.extend(lowest_terms(numerator, self.divisor))
        return told


class Sweep:
    """A matrix after elimination in its first columns.

    Row k of the table holds the divisor in the column pivots[k] and 0 in the
    columns of the other pivots; the rows behind the last pivot hold 0 in all
    columns that were swept.
    """

    def __init__(self, matrix, width):
        self.table = [list(row) for row in matrix]
        self.pivots = []
        self.divisor = 1
        for column in range(width):
            self.sweep_column(column)

    def sweep_column(self, column):
        place = len(self.pivots)
        found = self.pivot_place(column)
        if found is None:
            return
        pivot_row = self.table[found]
        self.table[found] = self.table[place]
        table = [self.swept_row(row, pivot_row, column) for row in self.table]
        table[place] = pivot_row
        self.table = table
        self.pivots.append(column)
        self.divisor = pivot_row[column]

    def pivot_place(self, column):
        for place in range(len(self.pivots), len(self.table)):
            if self.table[place][column] != 0:
                return place
        return None

    def swept_row(self, row, pivot_row, column):
        # Each new number is a determinant of the matrix's own numbers, so the
        # division by the pivot before leaves no rest.
        pivot = pivot_row[column]
        factor = row[column]
        return [(pivot * own - factor * other) // self.divisor
                for own, other in zip(row, pivot_row)]


def rank_of(matrix, width):
    return len(Sweep(matrix, width).pivots)


def solved(matrix, target):
    """A solution of matrix * z = target for a square matrix, or None."""
    width = len(target)
    extended = [row + [value] for row, value in zip(matrix, target)]
    sweep = Sweep(extended, width)
    if any([row[width] != 0 for row in sweep.table[len(sweep.pivots):]]):
        return None
    numerators = [0] * width
    for place, column in enumerate(sweep.pivots):
        numerators[column] = sweep.table[place][width]
    return Solution(numerators, sweep.divisor)


def determinant(matrix):
    """By the first row's entries, so for matrices of a few rows only."""
    if len(matrix) == 0:
        return 1
    whole = 0
    sign = 1
    for place, entry in enumerate(matrix[0]):
        rest = [row[:place] + row[place + 1:] for row in matrix[1:]]
        whole += sign * entry * determinant(rest)
        sign = -sign
    return whole
