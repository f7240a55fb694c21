"""Rows of numbers, read from front to back."""

from shoppages.faults import FormFault, WrongArgument


class ByteReader:
    """Reads a form's bytes; which rule it breaks to end too early is the form's own."""

    def __init__(self, row, end_rule):
        self.row = row
        self.end_rule = end_rule
        self.place = 0

    def bytes_left(self):
        return len(self.row) - self.place

    def take_bytes(self, size):
        if size > self.bytes_left():
            raise FormFault(self.end_rule, len(self.row))
        begin = self.place
        self.place = begin + size
        return self.row[begin:self.place]

    def take_number(self, size):
        """The next number, told in that many bytes, the lowest first."""
        number = 0
        for byte in reversed(self.take_bytes(size)):
            number = 256 * number + byte
        return number

    def take_bounded(self, size, least, most, rule):
        """The next number; out of its bounds it breaks the rule at its first byte."""
        begin = self.place
        number = self.take_number(size)
        if number < least or number > most:
            raise FormFault(rule, begin)
        return number

    def take_mark(self, mark, rule):
        """Passes the mark byte by byte, as each byte has a place of its own."""
        for byte in mark:
            self.take_bounded(1, byte, byte, rule)

    def take_end(self, rule):
        if self.bytes_left() > 0:
            raise FormFault(rule, self.place)


class NumberReader:
    """Reads an argument's numbers; it isn't one if more are due than there are."""

    def __init__(self, numbers):
        self.numbers = numbers
        self.spot = 0

    def numbers_left(self):
        return len(self.numbers) - self.spot

    def take(self):
        return self.take_many(1)[0]

    def take_many(self, size):
        if size > self.numbers_left():
            raise WrongArgument()
        begin = self.spot
        self.spot = begin + size
        return self.numbers[begin:self.spot]

    def take_below(self, bound):
        number = self.take()
        if number >= bound:
            raise WrongArgument()
        return number
