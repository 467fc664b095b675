"""Models of many kinds, the same ones each time."""


class Numbers:
    """Whole numbers that look mixed and are the same each time."""

    def __init__(self, seed):
        self.state = seed * 7919 + 1

    def within(self, least, most):
        self.state = (self.state * 1103515245 + 12345) % 2 ** 31
        return least + (self.state >> 8) % (most - least + 1)

    def row(self, width, bound):
        return [self.within(-bound, bound) for place in range(width)]


def mixed_model(seed):
    """Rows of which some are sums of others, so that all ranks come about."""
    numbers = Numbers(seed)
    width = 1 + seed % 8
    bound = (1, 3, 30, 1000)[seed // 8 % 4]
    count = numbers.within(0, 12) if seed % 5 else 24
    rows = []
    for index in range(count):
        if len(rows) >= 2 and numbers.within(0, 2) == 0:
            first, second = rows[numbers.within(0, index - 1)], rows[index - 1]
            row = [max(-1000, min(1000, a - b)) for a, b in zip(first, second)]
        else:
            row = numbers.row(width, bound)
        if numbers.within(0, 1) and seed % 3 == 0:
            row[width - 1] = row[0]
        rows.append(row)
    responses = numbers.row(count, (5, 1000000)[seed % 2])
    vectors = [numbers.row(width, bound) for turn in range(3)] + rows[:3] + [[0] * width]
    return width, rows, responses, vectors


def copied(numbers, rows):
    """The rows, with many of them in the place of later ones too."""
    found = []
    for row in rows:
        if found and numbers.within(0, 1):
            row = found[numbers.within(0, len(found) - 1)]
        found.append(list(row))
    return found


def exact_responses(numbers, width, rows):
    """Responses that coefficients fit without residuals."""
    chosen = numbers.row(width, 9)
    return [sum(a * b for a, b in zip(row, chosen)) for row in rows]


def mixed_terms(numbers, width):
    terms = [0]
    while len(terms) < width:
        terms.append(terms[-1] + numbers.within(0, 1))
    return terms


def varied_model(seed):
    """A mixed model with terms: also with equal rows, without residuals, or
    with so few rows that there is no freedom."""
    width, rows, responses, vectors = mixed_model(seed)
    numbers = Numbers(seed + 100000)
    kind = seed // 3 % 4
    if kind == 1:
        rows = copied(numbers, rows)
    elif kind == 2 and seed % 2:
        responses = exact_responses(numbers, width, rows)
    elif kind == 3:
        rows, responses = rows[:width], responses[:width]
    vectors = vectors[:3] + rows[:3] + [[0] * width]
    return width, rows, responses, vectors, mixed_terms(numbers, width)
