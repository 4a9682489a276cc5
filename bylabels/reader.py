"""Reads the one list of numbers that the calls are handed in as."""


class Reader:
    def __init__(self, numbers):
        self.numbers = numbers
        self.place = 0

    def has_more(self):
        return self.place < len(self.numbers)

    def read_number(self):
        number = self.numbers[self.place]
        self.place = self.place + 1
        return number

    # A slice is a copy, so the list that was handed in stays as it was.
    def read_row(self):
        size = self.read_number()
        start = self.place
        self.place = start + size
        return self.numbers[start:self.place]
