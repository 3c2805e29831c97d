"""How what is handed in lies in lists of numbers, one thing behind another."""


class Reader:
    """Takes the numbers of a list from the first on; the list stays as it is."""

    def __init__(self, numbers):
        self.numbers = numbers
        self.taken = 0

    def is_done(self):
        return self.taken == len(self.numbers)

    def take(self):
        """The next number."""
        number = self.numbers[self.taken]
        self.taken += 1
        return number

    def take_many(self, count):
        """A list of the next numbers, as many as asked for."""
        first = self.taken
        self.taken += count
        return self.numbers[first:self.taken]

    def take_row(self):
        """A list of numbers that has its length ahead of it."""
        length = self.take()
        return self.take_many(length)


def lines_in(row):
    """The lines that lie in a row, each behind its number of bytes."""
    reader = Reader(row)
    lines = []
    while not reader.is_done():
        lines.append(reader.take_row())
    return lines


def positions_in(row):
    """The positions of lines that lie in a row, two numbers for each."""
    return [(row[k], row[k + 1]) for k in range(0, len(row), 2)]
