"""Takes what calls are made of out of the list that is handed in."""


class Reader:
    """Goes through a list of numbers once and leaves the list as it is."""

    def __init__(self, numbers):
        self.numbers = numbers
        self.position = 0

    def has_more(self):
        return self.position < len(self.numbers)

    def take(self):
        number = self.numbers[self.position]
        self.position += 1
        return number

    def take_place(self):
        column = self.take()
        row = self.take()
        return (column, row)

    def take_row(self):
        """A row of numbers, which has its length ahead of it."""
        length = self.take()
        start = self.position
        self.position += length
        return self.numbers[start:self.position]
