"""Taking the calls out of the list of numbers in which they are written."""


class Reader:
    """A walk through the list of calls; what it gives out are copies."""

    def __init__(self, calls):
        self.calls = calls
        self.place = 0

    def ended(self):
        return self.place >= len(self.calls)

    def take_number(self):
        number = self.calls[self.place]
        self.place += 1
        return number

    def take_text(self):
        length = self.take_number()
        start = self.place
        self.place += length
        return self.calls[start:start + length]
