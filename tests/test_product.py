"""Rows: product."""

import unittest

import long_model
from helpers import TOP, WORD, RowCase, any_word, steady
from wordmill import desk


def product(y, x):
    return desk.product([len(y)], [], y, x, [], [])


class Product(RowCase):
    def both_ways(self, y, x, result):
        answer = [0, 2 * len(y)] + result + [0, 1, 0]
        self.assertEqual(product(y, x), answer)
        self.assertEqual(product(x, y), answer)

    def test_one_word(self):
        self.both_ways([6], [7], [42, 0])
        self.both_ways([0], [WORD], [0, 0])
        self.both_ways([0], [0], [0, 0])
        self.both_ways([1], [WORD], [WORD, 0])
        self.both_ways([WORD], [WORD], [1, WORD - 1])
        self.both_ways([TOP], [2], [0, 1])
        self.both_ways([TOP], [TOP], [0, TOP // 2])

    def test_two_words(self):
        self.both_ways([2, 3], [5, 7], [10, 29, 21, 0])
        self.both_ways([0, 1], [0, 1], [0, 0, 1, 0])
        self.both_ways([WORD, 0], [WORD, 0], [1, WORD - 1, 0, 0])
        self.both_ways([0, WORD], [0, WORD], [0, 0, 1, WORD - 1])
        self.both_ways([0, WORD], [WORD, 0], [0, 1, WORD - 1, 0])
        self.both_ways([WORD, WORD], [2, 0], [WORD - 1, WORD, 1, 0])

    def test_a_factor_of_0_and_of_1(self):
        source = steady(12)
        for n in (1, 2, 5, 256):
            row = [any_word(source) for _ in range(n)]
            self.both_ways(row, [0] * n, [0] * (2 * n))
            self.both_ways(row, [1] + [0] * (n - 1), row + [0] * n)
            self.both_ways(row, [0] * (n - 1) + [1], [0] * (n - 1) + row + [0])

    def test_every_word_at_its_highest(self):
        for n in (1, 2, 3, 255, 256):
            ones = [WORD] * n
            result = [1] + [0] * (n - 1) + [WORD - 1] + [WORD] * (n - 1)
            self.both_ways(ones, ones, result)

    def test_against_long_numbers(self):
        source = steady(13)
        for n in list(range(1, 20)) * 10 + [255, 256]:
            y = [source.choice((0, WORD, any_word(source))) for _ in range(n)]
            x = [source.choice((0, WORD, any_word(source))) for _ in range(n)]
            self.assertEqual(product(y, x), long_model.answer(long_model.product(y, x)))

    def test_call(self):
        given = dict(n=[2], empty=[], y=[TOP, 3], x=[2, 5], bare=[], last=[])
        self.check_call(desk.product, given, [0, 4, 0, 7 + TOP, 17, 0, 0, 1, 0])

    def test_one_row_as_both(self):
        row = [WORD, 1]
        self.assertEqual(desk.product([2], [], row, row, [], []), [0, 4, 1, WORD - 3, 3, 0, 0, 1, 0])
        self.assertEqual(row, [WORD, 1])


if __name__ == "__main__":
    unittest.main()
