"""Rows: sub."""

import unittest

import long_model
from helpers import ALL, C, D, O, S, TOP, WORD, Z, RowCase, any_word, steady
from wordmill import desk


def sub(z, x, flags):
    return desk.sub([len(z)], z, [], x, [flags], [])


class Sub(RowCase):
    def test_one_word(self):
        for z, x, before, result, after in (
            (5, 3, 0, 2, 0),
            (5, 3, C, 1, 0),
            (5, 3, ALL, 1, D),
            (5, 3, ALL - C, 2, D),
            (3, 5, 0, WORD - 1, C + S),
            (3, 5, C, WORD - 2, C + S),
            (0, 1, 0, WORD, C + S),
            (0, WORD, 0, 1, C),
            (0, WORD, C, 0, C + Z),
            (WORD, WORD - 1, C, 0, Z),
            (TOP, 1, 0, TOP - 1, O),
            (TOP, 0, C, TOP - 1, O),
            (TOP - 1, WORD, 0, TOP, C + S + O),
            (TOP - 1, WORD, C, TOP - 1, C),
            (0, TOP, 0, TOP, C + S + O),
            (0, TOP, C, TOP - 1, C),
            (WORD, TOP, 0, TOP - 1, 0),
            (TOP, WORD, 0, TOP + 1, C + S),
        ):
            self.assertEqual(sub([z], [x], before), [0, 1, result, 0, 1, after], (z, x, before))

    def test_rows_alike(self):
        for row in ([0], [7], [WORD], [TOP, 3], [WORD, WORD], [5] * 256, [WORD] * 256):
            n = len(row)
            self.assertEqual(sub(row, list(row), 0), [0, n] + [0] * n + [0, 1, Z])
            self.assertEqual(sub(row, list(row), C), [0, n] + [WORD] * n + [0, 1, C + S])
            self.assertEqual(sub(row, list(row), ALL - C), [0, n] + [0] * n + [0, 1, Z + D])
            self.assertEqual(sub(row, list(row), ALL), [0, n] + [WORD] * n + [0, 1, C + S + D])

    def test_borrow_through_the_row(self):
        self.assertEqual(sub([0, 1], [1, 0], 0), [0, 2, WORD, 0, 0, 1, 0])
        self.assertEqual(sub([0, 0], [1, 0], 0), [0, 2, WORD, WORD, 0, 1, C + S])
        self.assertEqual(sub([0, 0], [0, 0], C), [0, 2, WORD, WORD, 0, 1, C + S])
        self.assertEqual(sub([0, 5], [WORD, 4], C), [0, 2, 0, 0, 0, 1, Z])
        self.assertEqual(sub([3, 0], [4, WORD], 0), [0, 2, WORD, 0, 0, 1, C])
        self.assertEqual(sub([0, TOP], [1, 0], 0), [0, 2, WORD, TOP - 1, 0, 1, O])
        self.assertEqual(sub([0, 0, 1], [0, 0, 0], C), [0, 3, WORD, WORD, 0, 0, 1, 0])

    def test_256_words(self):
        none = [0] * 256
        one = [1] + [0] * 255
        high = [0] * 255 + [1]
        self.assertEqual(sub(none, one, 0), [0, 256] + [WORD] * 256 + [0, 1, C + S])
        self.assertEqual(sub(none, none, C), [0, 256] + [WORD] * 256 + [0, 1, C + S])
        self.assertEqual(sub(high, none, C), [0, 256] + [WORD] * 255 + [0] + [0, 1, 0])
        self.assertEqual(sub(high, high, D), [0, 256] + none + [0, 1, Z + D])
        low = [0] * 255 + [TOP]
        self.assertEqual(sub(low, one, 0), [0, 256] + [WORD] * 255 + [TOP - 1] + [0, 1, O])
        self.assertEqual(sub(none, low, 0), [0, 256] + low + [0, 1, C + S + O])

    def test_sign_zero_and_overflow_are_of_the_whole_row(self):
        self.assertEqual(sub([TOP, 1], [0, 0], 0), [0, 2, TOP, 1, 0, 1, 0])
        self.assertEqual(sub([0, 1], [0, 0], 0), [0, 2, 0, 1, 0, 1, 0])
        self.assertEqual(sub([1, 0], [0, 0], 0), [0, 2, 1, 0, 0, 1, 0])
        self.assertEqual(sub([5, TOP], [5, 0], 0), [0, 2, 0, TOP, 0, 1, S])
        self.assertEqual(sub([TOP, 3], [1, 3], 0), [0, 2, TOP - 1, 0, 0, 1, 0])

    def test_against_long_numbers(self):
        source = steady(6)
        for n in list(range(1, 20)) * 20 + [255, 256]:
            z = [source.choice((0, WORD, any_word(source))) for _ in range(n)]
            x = [source.choice((z[k], any_word(source))) for k in range(n)]
            flags = source.getrandbits(32)
            self.assertEqual(sub(z, x, flags), long_model.answer(long_model.sub(z, x, flags)))

    def test_flags_of_all_kinds(self):
        for flags in range(4096):
            self.assertEqual(sub([9, 9], [8, 8], flags), [0, 2, 1 - flags % 2, 1, 0, 1, flags & D])

    def test_bits_that_are_no_flag_are_nothing(self):
        others = 0xFFFFFFFF & ~ALL
        for flags in (0, C, D, ALL):
            self.assertEqual(sub([1, 2], [3, 1], flags | others), sub([1, 2], [3, 1], flags))

    def test_call(self):
        answer = [0, 2, WORD - 1, 1, 0, 1, D]
        self.check_call(desk.sub, dict(n=[2], z=[0, 7], empty=[], x=[1, 5], flags=[0xFFFFFFFF], bare=[]), answer)

    def test_one_row_as_both(self):
        row = [WORD, 1]
        self.assertEqual(desk.sub([2], row, [], row, [0], []), [0, 2, 0, 0, 0, 1, Z])
        self.assertEqual(row, [WORD, 1])


if __name__ == "__main__":
    unittest.main()
