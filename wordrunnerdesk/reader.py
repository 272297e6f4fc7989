"""Reading a list of calls, number by number."""


class CallReader:
    """A place in a list of calls; the list is only read."""

    def __init__(self, calls):
        self.calls = calls
        self.place = 0

    def has_more(self):
        """Whether a number is left."""
        return self.place < len(self.calls)

    def take(self):
        """The number at the place, which goes on by one."""
        number = self.calls[self.place]
        self.place += 1
        return number

    def take_row(self):
        """A copy of the row at the place, whose length stands before it."""
        length = self.take()
        start = self.place
        self.place = start + length
        return self.calls[start:self.place]
