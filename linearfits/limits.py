"""The error codes, and the ranges that several operations look at."""

NOT_THERE = -2
NOT_CREATED = -11
OUT_OF_RANGE = -22
ROWS_FULL = -28
NO_RESULT = -33

MOST_COLUMNS = 8
MOST_ROWS = 24
MOST_VARIABLES = 3
LARGEST_ENTRY = 1000
# Of responses and of the coefficients of a surface.
LARGEST_NUMBER = 1000000


def all_within(numbers, largest):
    return all([abs(number) <= largest for number in numbers])
