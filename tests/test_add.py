"""Rows: add."""

import unittest

import long_model
from helpers import ALL, C, D, O, S, TOP, WORD, Z, RowCase, any_word, steady
from wordmill import desk


def add(z, x, flags):
    return desk.add([len(z)], z, [], x, [flags], [])


class Add(RowCase):
    def test_one_word(self):
        for z, x, before, result, after in (
            (1, 2, 0, 3, 0),
            (1, 2, C, 4, 0),
            (1, 2, ALL, 4, D),
            (1, 2, ALL - C, 3, D),
            (0, 0, 0, 0, Z),
            (0, 0, C, 1, 0),
            (WORD, 0, C, 0, C + Z),
            (WORD, 1, 0, 0, C + Z),
            (WORD, WORD, C, WORD, C + S),
            (TOP - 1, 1, 0, TOP, S + O),
            (TOP - 1, 0, C, TOP, S + O),
            (TOP, TOP, 0, 0, C + Z + O),
            (TOP, WORD, 0, TOP - 1, C + O),
            (TOP, WORD, C, TOP, C + S),
        ):
            self.assertEqual(add([z], [x], before), [0, 1, result, 0, 1, after])

    def test_more_words(self):
        self.assertEqual(add([WORD, 1], [1, 2], 0), [0, 2, 0, 4, 0, 1, 0])
        self.assertEqual(add([WORD, WORD], [0, 0], C), [0, 2, 0, 0, 0, 1, C + Z])
        self.assertEqual(add([TOP, 0, 0], [TOP, 0, 0], 0), [0, 3, 0, 1, 0, 0, 1, 0])
        self.assertEqual(add([0, TOP - 1], [0, 1], 0), [0, 2, 0, TOP, 0, 1, S + O])
        self.assertEqual(add([WORD, TOP - 1], [0, 0], C), [0, 2, 0, TOP, 0, 1, S + O])

    def test_sign_and_zero_are_of_the_whole_row(self):
        self.assertEqual(add([TOP, 1], [0, 0], 0), [0, 2, TOP, 1, 0, 1, 0])
        self.assertEqual(add([0, 1], [0, 0], 0), [0, 2, 0, 1, 0, 1, 0])
        self.assertEqual(add([1, 0], [0, 0], 0), [0, 2, 1, 0, 0, 1, 0])
        self.assertEqual(add([1, 0, 0], [0, 0, 0], 0), [0, 3, 1, 0, 0, 0, 1, 0])
        self.assertEqual(add([0, 0, 0], [0, 0, 0], 0), [0, 3, 0, 0, 0, 0, 1, Z])
        self.assertEqual(add([5, TOP], [5, 0], 0), [0, 2, 10, TOP, 0, 1, S])

    def test_256_words(self):
        ones = [WORD] * 256
        none = [0] * 256
        self.assertEqual(add(ones, none, C), [0, 256] + none + [0, 1, C + Z])
        self.assertEqual(add(ones, none, D), [0, 256] + ones + [0, 1, S + D])
        self.assertEqual(add(ones, ones, C), [0, 256] + ones + [0, 1, C + S])
        high = [WORD] * 255 + [TOP - 1]
        self.assertEqual(add(high, none, C), [0, 256] + [0] * 255 + [TOP] + [0, 1, S + O])

    def test_against_long_numbers(self):
        source = steady(5)
        for n in list(range(1, 20)) * 20 + [255, 256]:
            z = [source.choice((0, WORD, any_word(source))) for _ in range(n)]
            x = [source.choice((WORD - z[k], any_word(source))) for k in range(n)]
            flags = source.getrandbits(32)
            self.assertEqual(add(z, x, flags), long_model.answer(long_model.add(z, x, flags)))

    def test_flags_of_all_kinds(self):
        for flags in range(4096):
            self.assertEqual(add([7, 7], [8, 8], flags), [0, 2, 15 + flags % 2, 15, 0, 1, flags & D])

    def test_bits_that_are_no_flag_are_nothing(self):
        others = 0xFFFFFFFF & ~ALL
        for flags in (0, C, D, ALL):
            self.assertEqual(add([1, 2], [3, 4], flags | others), add([1, 2], [3, 4], flags))

    def test_call(self):
        answer = [0, 2, 1, 9, 0, 1, D]
        self.check_call(desk.add, dict(n=[2], z=[WORD, 3], empty=[], x=[1, 5], flags=[0xFFFFFFFF], bare=[]), answer)

    def test_one_row_as_both(self):
        row = [WORD, 1]
        self.assertEqual(desk.add([2], row, [], row, [0], []), [0, 2, WORD - 1, 3, 0, 1, 0])
        self.assertEqual(row, [WORD, 1])


if __name__ == "__main__":
    unittest.main()
