"""Goes through a list of calls."""


class CallReader:
    """A list of calls and the place in it that is reached; the list itself is only read."""

    def __init__(self, calls):
        self.calls = calls
        self.place = 0

    def at_end(self):
        """Whether no call is left."""
        return self.place >= len(self.calls)

    def next_number(self):
        """The number that is next."""
        place = self.place
        self.place = place + 1
        return self.calls[place]

    def next_row(self):
        """The row that is next, as a list of its own, without the number that says how long it is."""
        length = self.next_number()
        start = self.place
        self.place = start + length
        return self.calls[start:start + length]
