"""Lists of whole numbers that are read from the front."""


class Row:
    """A list, and the place up to which it has been read; the list itself stays as it is."""

    def __init__(self, numbers):
        self.numbers = numbers
        self.place = 0

    def has_more(self):
        return self.place < len(self.numbers)

    def one(self):
        self.place += 1
        return self.numbers[self.place - 1]

    def told(self):
        """A list that has how many numbers it has ahead of it."""
        count = self.one()
        self.place += count
        return self.numbers[self.place - count:self.place]
