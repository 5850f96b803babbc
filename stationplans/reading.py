"""Reads the list of calls, number by number."""


class Reader:
    """Stands at a place of the calls and goes on as they are read."""

    def __init__(self, calls):
        self.calls = calls
        self.place = 0

    def has_more(self):
        """Whether a number is left."""
        return self.place < len(self.calls)

    def number(self):
        """The number at this place."""
        found = self.calls[self.place]
        self.place += 1
        return found

    def row(self):
        """The list at this place, which has its length ahead of it."""
        return [self.number() for each in range(self.number())]
