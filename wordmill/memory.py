"""The memory of 65536 bytes."""

from wordmill.stops import NoBytes

SIZE = 65536


class Memory:
    """The cells are its bytes; what is not all in it stops the machine before anything is written."""

    def __init__(self, place, given):
        self.cells = [0] * place + given + [0] * (SIZE - place - len(given))

    def need(self, place, size):
        if place + size > SIZE:
            raise NoBytes()

    def load(self, place, size):
        """The number that so many bytes say, the lowest first."""
        self.need(place, size)
        value = 0
        for cell in range(place + size - 1, place - 1, -1):
            value = (value << 8) | self.cells[cell]
        return value

    def save(self, place, size, value):
        self.need(place, size)
        rest = value
        for cell in range(place, place + size):
            self.cells[cell] = rest & 255
            rest = rest >> 8

    def load_row(self, place, n):
        return [self.load(cell, 8) for cell in range(place, place + 8 * n, 8)]

    def save_row(self, place, row):
        self.need(place, 8 * len(row))
        for number, word in enumerate(row):
            self.save(place + 8 * number, 8, word)
