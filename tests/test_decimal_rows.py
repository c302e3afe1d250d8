"""Rows: decimal."""

import unittest

import long_model
from helpers import ALL, C, D, S, Z, RowCase, any_digits, steady
from wordmill import desk

NINES = 0x9999999999999999
OTHERS = 0xFFFFFFFF & ~ALL


def decimal(z, x, flags):
    return desk.decimal([len(z)], z, [], x, [flags], [])


class Decimal(RowCase):
    def test_one_word(self):
        for z, x, before, result, after in (
            (0x19, 0x23, 0, 0x42, 0),
            (0x19, 0x23, C, 0x43, 0),
            (0x19, 0x23, ALL, 0x43, D),
            (0x19, 0x23, ALL - C, 0x42, D),
            (0, 0, 0, 0, Z),
            (0, 0, ALL - C, 0, Z + D),
            (0, 0, C, 1, 0),
            (NINES, 1, 0, 0, C + Z),
            (NINES, 0, C, 0, C + Z),
            (NINES, 0, 0, NINES, S),
            (NINES, NINES, 0, 0x9999999999999998, C + S),
            (NINES, NINES, C, NINES, C + S),
            (0x7999999999999999, 0, 0, 0x7999999999999999, 0),
            (0x7999999999999999, 0, C, 0x8000000000000000, S),
            (0x4000000000000000, 0x4000000000000000, 0, 0x8000000000000000, S),
            (0x4000000000000000, 0x5000000000000000, 0, 0x9000000000000000, S),
            (0x5000000000000000, 0x5000000000000000, 0, 0, C + Z),
            (0x8000000000000000, 0x8000000000000000, 0, 0x6000000000000000, C),
            (0x1234567890123456, 0x8765432109876543, 0, NINES, S),
        ):
            self.assertEqual(decimal([z], [x], before), [0, 1, result, 0, 1, after], (hex(z), hex(x), before))

    def test_carry_from_word_to_word(self):
        self.assertEqual(decimal([NINES, 0], [1, 0], 0), [0, 2, 0, 1, 0, 1, 0])
        self.assertEqual(decimal([NINES, 0x19], [0, 0x20], C), [0, 2, 0, 0x40, 0, 1, 0])
        self.assertEqual(decimal([NINES, NINES], [1, 0], 0), [0, 2, 0, 0, 0, 1, C + Z])
        self.assertEqual(decimal([NINES, NINES], [0, 0], C), [0, 2, 0, 0, 0, 1, C + Z])
        self.assertEqual(decimal([NINES, NINES], [0, 0], 0), [0, 2, NINES, NINES, 0, 1, S])
        self.assertEqual(decimal([0, NINES], [0, 1], 0), [0, 2, 0, 0, 0, 1, C + Z])
        self.assertEqual(decimal([NINES, NINES, 3], [1, 0, 4], 0), [0, 3, 0, 0, 8, 0, 1, 0])

    def test_sign_and_zero_are_of_the_whole_row(self):
        self.assertEqual(decimal([NINES, 1], [0, 0], 0), [0, 2, NINES, 1, 0, 1, 0])
        self.assertEqual(decimal([1, 0], [0, 0], 0), [0, 2, 1, 0, 0, 1, 0])
        self.assertEqual(decimal([0, 1], [0, 0], 0), [0, 2, 0, 1, 0, 1, 0])
        self.assertEqual(decimal([0, 0], [0, 0], 0), [0, 2, 0, 0, 0, 1, Z])
        self.assertEqual(decimal([0, 8 << 60], [0, 0], 0), [0, 2, 0, 8 << 60, 0, 1, S])

    def test_256_words(self):
        nines = [NINES] * 256
        none = [0] * 256
        one = [1] + [0] * 255
        self.assertEqual(decimal(nines, one, 0), [0, 256] + none + [0, 1, C + Z])
        self.assertEqual(decimal(nines, none, C), [0, 256] + none + [0, 1, C + Z])
        self.assertEqual(decimal(nines, none, D), [0, 256] + nines + [0, 1, S + D])
        self.assertEqual(decimal(nines, nines, C), [0, 256] + nines + [0, 1, C + S])
        below = [NINES] * 255 + [0]
        self.assertEqual(decimal(below, one, 0), [0, 256] + [0] * 255 + [1] + [0, 1, 0])

    def test_what_is_no_digit(self):
        for place in range(16):
            for digit in (10, 11, 15):
                wrong = [digit << (4 * place)]
                for flags in (0, ALL):
                    self.assertEqual(decimal(wrong, [0], flags), [6])
                    self.assertEqual(decimal([0], wrong, flags), [6])
                    self.assertEqual(decimal(wrong, wrong, flags), [6])
                right = [9 << (4 * place)]
                self.assertEqual(decimal(right, [0], 0)[:3], [0, 1] + right)

    def test_what_is_no_digit_in_any_word(self):
        for n in (2, 3, 256):
            for at in sorted({0, 1, n // 2, n - 1}):
                wrong = [NINES] * n
                wrong[at] = 0x1111A11111111111
                self.assertEqual(decimal(wrong, [0] * n, 0), [6])
                self.assertEqual(decimal([NINES] * n, wrong, C), [6])

    def test_against_digits_one_by_one(self):
        source = steady(7)
        for n in list(range(1, 20)) * 20 + [255, 256]:
            z = [source.choice((0, NINES, any_digits(source))) for _ in range(n)]
            x = [source.choice((NINES - z[k], any_digits(source))) for k in range(n)]
            if source.randrange(8) == 0:
                source.choice((z, x))[source.randrange(n)] ^= 0xF << (4 * source.randrange(16))
            flags = source.getrandbits(32)
            self.assertEqual(decimal(z, x, flags), long_model.answer(long_model.decimal(z, x, flags)))

    def test_flags_of_all_kinds(self):
        for flags in range(4096):
            self.assertEqual(decimal([7, 7], [8, 8], flags), [0, 2, 0x15 + flags % 2, 0x15, 0, 1, flags & D])

    def test_bits_that_are_no_flag_are_nothing(self):
        for flags in (0, C, D, ALL):
            self.assertEqual(decimal([1, 2], [9, 4], flags | OTHERS), decimal([1, 2], [9, 4], flags))

    def test_call(self):
        given = dict(n=[2], z=[NINES, 3], empty=[], x=[1, 8], flags=[0xFFFFFFFF], bare=[])
        self.check_call(desk.decimal, given, [0, 2, 1, 0x12, 0, 1, D])
        given["x"] = [1, 10]
        self.check_call(desk.decimal, given, [6])

    def test_one_row_as_both(self):
        row = [NINES, 1]
        self.assertEqual(desk.decimal([2], row, [], row, [0], []), [0, 2, NINES - 1, 3, 0, 1, 0])
        self.assertEqual(row, [NINES, 1])


if __name__ == "__main__":
    unittest.main()
