"""Taking calls apart: whole numbers and rows, one behind another, from one list."""


class Reader:
    """Goes through a list of whole numbers once, and never changes it."""

    def __init__(self, numbers):
        self.numbers = numbers
        self.place = 0

    def at_end(self):
        return self.place >= len(self.numbers)

    def take_number(self):
        number = self.numbers[self.place]
        self.place = self.place + 1
        return number

    def take_row(self):
        """A row stands behind the number that tells its length."""
        length = self.take_number()
        start = self.place
        self.place = start + length
        return self.numbers[start:start + length]
