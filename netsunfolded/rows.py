"""Rows of whole numbers: how they are read, and whether they are told as they should be."""


class RowReader:
    """Reads a list of numbers from its beginning on, and leaves the list as it is."""

    def __init__(self, numbers):
        self.numbers = numbers
        self.position = 0

    def has_more(self):
        return self.position < len(self.numbers)

    def read_number(self):
        number = self.numbers[self.position]
        self.position += 1
        return number

    def read_row(self):
        """The numbers behind their count."""
        length = self.read_number()
        start = self.position
        self.position = start + length
        return self.numbers[start:self.position]


def split_rows(numbers):
    """The rows that stand one behind another, each behind its count; None if the last has too few."""
    rows = []
    start = 0
    while start < len(numbers):
        end = start + 1 + numbers[start]
        if end > len(numbers):
            return None
        rows.append(numbers[start + 1:end])
        start = end
    return rows


def is_rising_below(numbers, bound):
    """Whether the numbers rise, none twice, and all are below the bound."""
    for k in range(1, len(numbers)):
        if numbers[k - 1] >= numbers[k]:
            return False
    return len(numbers) == 0 or numbers[-1] < bound
