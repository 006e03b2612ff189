"""Reads the numbers of calls one behind another."""


class Reader:
    def __init__(self, numbers):
        self.numbers = numbers
        self.at = 0

    def more(self):
        return self.at < len(self.numbers)

    def take(self):
        number = self.numbers[self.at]
        self.at += 1
        return number

    # A row has how many numbers it holds before it.
    def row(self):
        size = self.take()
        start = self.at
        self.at += size
        return self.numbers[start:self.at]
