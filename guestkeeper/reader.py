"""Reads a list of calls, number by number."""


class Reader:
    def __init__(self, calls):
        self.calls = calls
        self.at = 0

    def more(self):
        return self.at < len(self.calls)

    def number(self):
        value = self.calls[self.at]
        self.at = self.at + 1
        return value

    # A slice is a copy: what is handed in stays as it was, whatever is done to the row.
    def row(self):
        size = self.number()
        start = self.at
        self.at = start + size
        return self.calls[start:self.at]
