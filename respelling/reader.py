"""Reads a list of calls number by number and row by row."""


class Reader:
    def __init__(self, calls):
        self.calls = calls
        self.place = 0

    def is_done(self):
        return self.place >= len(self.calls)

    def take_number(self):
        number = self.calls[self.place]
        self.place += 1
        return number

    def take_row(self):
        size = self.take_number()
        behind = self.place + size
        row = self.calls[self.place:behind]
        self.place = behind
        return row
