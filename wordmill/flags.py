"""The seven flags and their word."""

from wordmill.words import bit, even_ones


class Flags:
    """Each flag is 0 or 1; bits of the word that are no flag are dropped."""

    def __init__(self, word):
        self.carry = word & 1
        self.parity = (word >> 2) & 1
        self.adjust = (word >> 4) & 1
        self.zero = (word >> 6) & 1
        self.sign = (word >> 7) & 1
        self.direction = (word >> 10) & 1
        self.overflow = (word >> 11) & 1

    def low_byte(self):
        """The flags that lie in the word's lowest byte."""
        return self.carry + 4 * self.parity + 16 * self.adjust + 64 * self.zero + 128 * self.sign

    def word(self):
        return self.low_byte() + 1024 * self.direction + 2048 * self.overflow

    def tell(self, result, k):
        """SZP by a result of k bits."""
        self.sign = result >> (k - 1)
        self.zero = bit(result == 0)
        self.parity = even_ones(result & 255)

    def tell_rest(self, carry, overflow, adjust):
        self.carry = carry
        self.overflow = overflow
        self.adjust = adjust
