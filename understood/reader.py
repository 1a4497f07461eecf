"""Goes through one list of calls, number by number, and leaves the list as it is."""


class Reader:
    def __init__(self, calls):
        self.calls = calls
        self.place = 0

    def has_more(self):
        return self.place < len(self.calls)

    def number(self):
        taken = self.calls[self.place]
        self.place = self.place + 1
        return taken

    def row(self):
        size = self.number()
        start = self.place
        self.place = start + size
        return self.calls[start:self.place]
