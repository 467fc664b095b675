"""Reading a list of calls: which call, and with what."""

# For each call, in the order of the numbers 0 to 25: how many whole numbers
# and how many lists it is handed.
SHAPES = (
    (1, 0), (1, 1), (1, 0), (2, 0), (0, 1), (0, 0), (1, 0), (0, 0), (0, 0),
    (0, 1), (0, 2), (0, 1), (1, 0), (1, 0), (1, 0), (0, 0), (0, 0), (0, 0),
    (0, 0), (1, 0), (0, 0), (0, 1), (1, 0), (0, 0), (2, 2), (0, 0),
)


class Reader:
    """A list of calls and the place up to which it has been read."""

    def __init__(self, calls):
        self.calls = calls
        self.place = 0

    def at_end(self):
        return self.place >= len(self.calls)

    def number(self):
        self.place += 1
        return self.calls[self.place - 1]

    def row(self):
        length = self.number()
        self.place += length
        return self.calls[self.place - length:self.place]

    def call(self):
        """The call's number, and its arguments in the signature's order."""
        operation = self.number()
        shape = SHAPES[operation]
        arguments = []
        for turn in range(shape[0]):
            arguments.append(self.number())
        for turn in range(shape[1]):
            arguments.append(self.row())
        return (operation, arguments)


def read_calls(calls):
    reader = Reader(calls)
    found = []
    while not reader.at_end():
        found.append(reader.call())
    return found
