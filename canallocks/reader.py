"""Reading calls from the list in which they stand."""


class Reader:
    """A list of numbers and how far it has been read; the list stays as it is."""

    def __init__(self, calls):
        self.calls = calls
        self.at = 0

    def has_more(self):
        """Tell whether there are numbers that have not been read."""
        return self.at < len(self.calls)

    def number(self):
        """Read one number."""
        value = self.calls[self.at]
        self.at += 1
        return value

    def row(self):
        """Read a row with its length before it, as a list of its own."""
        length = self.number()
        start = self.at
        self.at = start + length
        return self.calls[start:self.at]
