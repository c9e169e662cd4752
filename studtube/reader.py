"""Reads the text of a catalogue, right or not."""

from studtube.names import LONGEST_NAME, fits_name, is_digit
from studtube.refusals import NoCatalogue, TooLong
from studtube.shape import NO_CELL, Part, is_sign

MOST_BYTES = 1048576
MOST_PARTS = 64
MOST_WIDE = 16
MOST_HIGH = 18
MOST_HEAVY = 9999

# What no byte is: stands for the end of the text.
TEXT_END = 256


# A byte is stepped over only when some catalogue's text begins with all up to it:
# wherever reading fails, the steps made are the fault.
class Reader:
    def __init__(self, t):
        self.t = t
        self.at = 0

    def next_byte(self):
        if self.at == len(self.t):
            return TEXT_END
        return self.t[self.at]

    def fail_unless(self, good):
        if not good:
            raise NoCatalogue(self.at)

    def need(self, word):
        for sign in word:
            self.fail_unless(self.next_byte() == ord(sign))
            self.at += 1

    def read_name(self):
        start = self.at
        while self.at - start < LONGEST_NAME and fits_name(self.next_byte(), self.at - start):
            self.at += 1
        self.fail_unless(self.at > start)
        return self.t[start:self.at]

    # From 1 on: so a nought in front is refused as every other number out of bounds is.
    def read_number(self, most):
        value = 0
        while is_digit(self.next_byte()):
            longer = value * 10 + self.next_byte() - ord("0")
            if longer < 1 or longer > most:
                break
            value = longer
            self.at += 1
        self.fail_unless(value > 0)
        return value

    def read_sign(self):
        sign = self.next_byte()
        self.fail_unless(is_sign(sign))
        self.at += 1
        return sign

    def read_cells(self, width, depth, height):
        cells = {}
        for z in range(height):
            for y in range(depth):
                for x in range(width):
                    sign = self.read_sign()
                    if sign != NO_CELL:
                        cells[(x, y, z)] = sign
                self.need("\n")
        return cells

    def read_part(self):
        self.need("part ")
        name = self.read_name()
        self.need(" ")
        width = self.read_number(MOST_WIDE)
        self.need(" ")
        depth = self.read_number(MOST_WIDE)
        self.need(" ")
        height = self.read_number(MOST_HIGH)
        self.need(" ")
        weight = self.read_number(MOST_HEAVY)
        self.need("\n")
        return Part(name, width, depth, height, weight, self.read_cells(width, depth, height))


def read_catalogue(t):
    if len(t) > MOST_BYTES:
        raise TooLong()
    reader = Reader(t)
    parts = [reader.read_part()]
    while reader.at < len(t):
        reader.fail_unless(len(parts) < MOST_PARTS)
        parts.append(reader.read_part())
    return parts
