"""Takes a list of calls apart, number by number, and leaves the list as it is."""


class CallReader:

    def __init__(self, calls):
        self.calls = calls
        self.place = 0

    def has_more(self):
        return self.place < len(self.calls)

    def take_number(self):
        number = self.calls[self.place]
        self.place += 1
        return number

    def take_row(self):
        length = self.take_number()
        start = self.place
        self.place += length
        return self.calls[start:self.place]
