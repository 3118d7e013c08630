"""Reading a list of calls from its front to its end."""


class Reader:
    """A place in a list of numbers, which is only read."""

    def __init__(self, numbers):
        self.numbers = numbers
        self.place = 0

    def is_done(self):
        return self.place >= len(self.numbers)

    def number(self):
        found = self.numbers[self.place]
        self.place += 1
        return found

    def row(self):
        """A row that has how many numbers it has before it; a list of its own."""
        size = self.number()
        found = self.numbers[self.place:self.place + size]
        self.place += size
        return found
