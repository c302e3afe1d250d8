"""Rows: digits."""

import unittest

import long_model
from helpers import WORD, RowCase, any_word, steady
from wordmill import desk

LOW = 2**52 - 1


def digits(low, high, x, y):
    return desk.digits([8], low, high, x, y, [])


class Digits(RowCase):
    def test_each_of_the_eight(self):
        low = [0, 1, 2, 3, 4, 5, 6, WORD]
        high = [10, 11, 12, 13, 14, 15, WORD, 17]
        x = [0, 1, 2, 2**51, LOW, LOW, LOW, 1]
        y = [9, 1, 3, 2, 1, LOW, LOW, 1]
        low_then = [0, 2, 8, 3, 4 + LOW, 6, 7, 0]
        high_then = [10, 11, 12, 14, 14, 15 + LOW - 1, LOW - 2, 17]
        self.assertEqual(digits(low, high, x, y), [0, 8] + low_then + [8] + high_then + [1, 0])

    def test_bits_above_52_are_nothing(self):
        above = WORD - LOW
        low, high = [3] * 8, [4] * 8
        x = [0, 1, LOW, 5, 2**51, 2**52, 2**63, 7]
        y = [LOW, LOW, LOW, 7, 2, 1, 1, 2**52 + 2]
        plain = digits(low, high, x, y)
        self.assertEqual(plain[2:10], [3, 3 + LOW, 4, 38, 3, 3, 3, 17])
        self.assertEqual(plain[11:19], [4, 4, 4 + LOW - 1, 4, 5, 4, 4, 4])
        self.assertEqual(digits(low, high, [v | above for v in x], y), plain)
        self.assertEqual(digits(low, high, x, [v | above for v in y]), plain)
        self.assertEqual(digits(low, high, [v | above for v in x], [v | above for v in y]), plain)

    def test_sums_are_modulo_2_to_the_64(self):
        ones = [WORD] * 8
        answer = [0, 8] + [0] * 8 + [8] + [LOW - 2] * 8 + [1, 0]
        self.assertEqual(digits(ones, ones, [LOW] * 8, [LOW] * 8), answer)
        self.assertEqual(digits(ones, ones, ones, ones), answer)
        answer = [0, 8] + [0] * 8 + [8] + ones + [1, 0]
        self.assertEqual(digits(ones, ones, [1] * 8, [1] * 8), answer)
        answer = [0, 8] + ones + [8] + [0] * 8 + [1, 0]
        self.assertEqual(digits(ones, ones, [2**51] * 8, [2] * 8), answer)
        answer = [0, 8] + ones + [8] + ones + [1, 0]
        self.assertEqual(digits(ones, ones, ones, [0] * 8), answer)

    def test_against_long_numbers(self):
        source = steady(17)
        for _ in range(300):
            given = [[source.choice((0, LOW, WORD, any_word(source), source.getrandbits(64))) for _ in range(8)]
                     for _ in range(4)]
            self.assertEqual(digits(*given), long_model.answer(long_model.digits(*given)))

    def test_call(self):
        given = dict(n=[8], low=list(range(8)), high=list(range(10, 18)), x=[2**51] * 8, y=[3] * 8, bare=[])
        low, high = [2**51 + k for k in range(8)], list(range(11, 19))
        self.check_call(desk.digits, given, [0, 8] + low + [8] + high + [1, 0])

    def test_one_row_as_all(self):
        row = [2] * 8
        self.assertEqual(desk.digits([8], row, row, row, row, []), [0, 8] + [6] * 8 + [8] + [2] * 8 + [1, 0])
        self.assertEqual(row, [2] * 8)


if __name__ == "__main__":
    unittest.main()
