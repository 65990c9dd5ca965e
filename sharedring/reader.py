"""Reads a list of calls from its beginning to its end, without changing it."""


class CallReader:
    """Stands at one place of the list of calls and moves on with what is read."""

    def __init__(self, calls):
        self.calls = calls
        self.place = 0

    def has_more(self):
        """Tell whether a call is left."""
        return self.place < len(self.calls)

    def read_one(self):
        """Answer one whole number."""
        number = self.calls[self.place]
        self.place = self.place + 1
        return number

    def read_row(self):
        """Answer a row, before which stands how many numbers it has."""
        count = self.read_one()
        begin = self.place
        self.place = begin + count
        return self.calls[begin:begin + count]
