"""Reading a list of calls, number by number and row by row."""


class Reader:
    """Goes through a list of numbers once, and leaves it as it is."""

    def __init__(self, numbers):
        self.numbers = numbers
        self.at = 0

    def has_more(self):
        return self.at < len(self.numbers)

    def next_number(self):
        number = self.numbers[self.at]
        self.at += 1
        return number

    def next_row(self):
        """The row that is next, which has its length before it."""
        length = self.next_number()
        row = self.numbers[self.at:self.at + length]
        self.at += length
        return row
