"""Rows: left and right."""

import unittest

import long_model
from helpers import TOP, WORD, RowCase, any_word, steady
from wordmill import desk

HALF = 2**32
X = 0x0123456789ABCDEF
Y = 0xFEDCBA9876543210
BITS = 0xA5C3E1F00F1E3C5A


def left(z, by, bits):
    return desk.left([len(z)], z, [], [], [by], [bits])


def right(z, by, bits):
    return desk.right([len(z)], z, [], [], [by], [bits])


class Left(RowCase):
    def test_one_word(self):
        for z, by, bits, result, passes in (
            (5, 0, 0, 5, 0),
            (5, 1, 0, 10, 0),
            (5, 1, TOP, 11, 0),
            (5, 1, TOP - 1, 10, 0),
            (WORD, 1, 0, WORD - 1, 1),
            (WORD, 1, TOP, WORD, 1),
            (WORD, 63, 0, TOP, TOP - 1),
            (WORD, 63, WORD, WORD, TOP - 1),
            (WORD, 63, 1, TOP, TOP - 1),
            (WORD, 63, 2, TOP + 1, TOP - 1),
            (1, 63, 0, TOP, 0),
            (2, 63, 0, 0, 1),
            (0, 32, WORD, HALF - 1, 0),
            (X, 32, BITS, 0x89ABCDEFA5C3E1F0, 0x01234567),
            (X, 4, BITS, 0x123456789ABCDEFA, 0),
            (Y, 4, BITS, 0xEDCBA9876543210A, 0xF),
        ):
            self.assertEqual(left([z], by, bits), [0, 1, result, 0, 1, passes], (z, by, bits))

    def test_two_words(self):
        self.assertEqual(left([X, Y], 4, BITS), [0, 2, 0x123456789ABCDEFA, 0xEDCBA98765432100, 0, 1, 0xF])
        self.assertEqual(left([Y, X], 4, BITS), [0, 2, 0xEDCBA9876543210A, 0x123456789ABCDEFF, 0, 1, 0])
        self.assertEqual(left([X, Y], 32, BITS), [0, 2, 0x89ABCDEFA5C3E1F0, 0x7654321001234567, 0, 1, 0xFEDCBA98])
        self.assertEqual(left([TOP, TOP], 1, TOP), [0, 2, 1, 1, 0, 1, 1])
        self.assertEqual(left([3, 3], 63, 6), [0, 2, TOP + 3, TOP + 1, 0, 1, 1])

    def test_by_0_nothing_comes_and_nothing_passes(self):
        for row in ([0], [WORD], [X, Y], [WORD] * 256):
            for bits in (0, BITS, WORD):
                self.assertEqual(left(row, 0, bits), [0, len(row)] + row + [0, 1, 0])

    def test_256_words(self):
        ones, none = [WORD] * 256, [0] * 256
        for by in (1, 32, 63):
            low = (1 << by) - 1
            self.assertEqual(left(ones, by, WORD), [0, 256] + ones + [0, 1, low])
            self.assertEqual(left(ones, by, 0), [0, 256, WORD - low] + ones[1:] + [0, 1, low])
            self.assertEqual(left(none, by, WORD), [0, 256, low] + none[1:] + [0, 1, 0])
            part = WORD >> by >> (64 - by)
            self.assertEqual(left(none, by, WORD >> by), [0, 256, part] + none[1:] + [0, 1, 0])

    def test_against_bits_one_by_one(self):
        source = steady(14)
        for n in [1, 2, 3, 4, 5, 17] * 2 + [256]:
            for by in range(64):
                z = [any_word(source) for _ in range(n)]
                bits = source.choice((0, WORD, any_word(source)))
                self.assertEqual(left(z, by, bits), long_model.answer(long_model.left(z, by, bits)))

    def test_call(self):
        given = dict(n=[2], z=[TOP + 1, TOP + 2], empty=[], bare=[], by=[1], bits=[WORD])
        self.check_call(desk.left, given, [0, 2, 3, 5, 0, 1, 1])


class Right(RowCase):
    def test_one_word(self):
        for z, by, bits, result, went in (
            (5, 0, 0, 5, 0),
            (5, 1, 0, 2, TOP),
            (4, 1, 0, 2, 0),
            (4, 1, 1, TOP + 2, 0),
            (4, 1, WORD - 1, 2, 0),
            (WORD, 1, 1, WORD, TOP),
            (WORD, 63, 0, 1, WORD - 1),
            (WORD, 63, WORD, WORD, WORD - 1),
            (TOP, 63, 0, 1, 0),
            (TOP, 63, TOP, 1, 0),
            (TOP, 63, TOP // 2, TOP + 1, 0),
            (TOP - 1, 63, 0, 0, WORD - 1),
            (1, 63, 0, 0, 2),
            (0, 32, WORD, WORD - HALF + 1, 0),
            (X, 32, BITS, 0x0F1E3C5A01234567, 0x89ABCDEF00000000),
            (X, 4, BITS, 0xA0123456789ABCDE, 0xF000000000000000),
            (Y, 4, BITS, 0xAFEDCBA987654321, 0),
        ):
            self.assertEqual(right([z], by, bits), [0, 1, result, 0, 1, went], (z, by, bits))

    def test_two_words(self):
        self.assertEqual(right([X, Y], 4, BITS), [0, 2, 0x00123456789ABCDE, 0xAFEDCBA987654321, 0, 1, 0xF << 60])
        self.assertEqual(right([Y, X], 4, BITS), [0, 2, 0xFFEDCBA987654321, 0xA0123456789ABCDE, 0, 1, 0])
        middle = [0x7654321001234567, 0x0F1E3C5AFEDCBA98]
        self.assertEqual(right([X, Y], 32, BITS), [0, 2] + middle + [0, 1, 0x89ABCDEF00000000])
        self.assertEqual(right([1, 1], 1, 1), [0, 2, TOP, TOP, 0, 1, TOP])
        self.assertEqual(right([TOP + 1, 1], 63, 2), [0, 2, 3, 4, 0, 1, 2])

    def test_by_0_nothing_comes_and_nothing_went(self):
        for row in ([0], [WORD], [X, Y], [WORD] * 256):
            for bits in (0, BITS, WORD):
                self.assertEqual(right(row, 0, bits), [0, len(row)] + row + [0, 1, 0])

    def test_256_words(self):
        ones, none = [WORD] * 256, [0] * 256
        for by in (1, 32, 63):
            high = WORD ^ (WORD >> by)
            self.assertEqual(right(ones, by, WORD), [0, 256] + ones + [0, 1, high])
            self.assertEqual(right(ones, by, 0), [0, 256] + ones[1:] + [WORD >> by] + [0, 1, high])
            self.assertEqual(right(none, by, WORD), [0, 256] + none[1:] + [high] + [0, 1, 0])

    def test_against_bits_one_by_one(self):
        source = steady(15)
        for n in [1, 2, 3, 4, 5, 17] * 2 + [256]:
            for by in range(64):
                z = [any_word(source) for _ in range(n)]
                bits = source.choice((0, WORD, any_word(source)))
                self.assertEqual(right(z, by, bits), long_model.answer(long_model.right(z, by, bits)))

    def test_call(self):
        given = dict(n=[2], z=[TOP + 1, TOP + 2], empty=[], bare=[], by=[1], bits=[WORD])
        self.check_call(desk.right, given, [0, 2, TOP // 2, TOP + TOP // 2 + 1, 0, 1, TOP])


class BothWays(RowCase):
    def test_there_and_back(self):
        source = steady(16)
        for n in (1, 2, 256):
            for by in (0, 1, 32, 63):
                z = [any_word(source) for _ in range(n)]
                moved = left(z, by, any_word(source))
                back = right(moved[2:2 + n], by, moved[-1])
                self.assertEqual(back[2:2 + n], z)


if __name__ == "__main__":
    unittest.main()
