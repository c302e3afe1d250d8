"""Rows: order."""

import unittest

import long_model
from helpers import ALL, C, D, O, S, TOP, WORD, Z, RowCase, any_word, steady
from wordmill import desk


def order(z, x, flags):
    return desk.order([len(z)], z, [], x, [flags], [])


class Order(RowCase):
    def tells(self, z, x, after):
        """Whatever the flags were; D alone stays."""
        for before in (0, C, O + S + Z, ALL - D):
            self.assertEqual(order(z, x, before), [0, 0, 0, 1, after], (z, x, before))
            self.assertEqual(order(z, x, before + D), [0, 0, 0, 1, after + D], (z, x, before))

    def test_one_word(self):
        self.tells([5], [3], 0)
        self.tells([3], [5], C + S)
        self.tells([5], [5], Z)
        self.tells([0], [0], Z)
        self.tells([WORD], [WORD], Z)
        self.tells([0], [WORD], C)
        self.tells([WORD], [0], S)
        self.tells([TOP], [1], O)
        self.tells([TOP - 1], [WORD], C + S + O)
        self.tells([0], [TOP], C + S + O)
        self.tells([TOP], [TOP - 1], O)
        self.tells([TOP - 1], [TOP], C + S + O)
        self.tells([1], [0], 0)

    def test_two_words(self):
        self.tells([0, 1], [0, 1], Z)
        self.tells([1, 1], [0, 1], 0)
        self.tells([0, 1], [1, 1], C + S)
        self.tells([0, 2], [WORD, 1], 0)
        self.tells([WORD, 1], [0, 2], C + S)
        self.tells([TOP, 3], [0, 3], 0)
        self.tells([0, TOP], [1, 0], O)
        self.tells([0, TOP - 1], [0, WORD], C + S + O)
        self.tells([5, WORD], [5, 0], S)

    def test_256_words(self):
        row = [3] * 256
        self.tells(row, list(row), Z)
        self.tells([4] + row[1:], row, 0)
        self.tells([2] + row[1:], row, C + S)
        self.tells(row[1:] + [TOP], [4] + row[1:], O)
        self.tells(row, row[1:] + [TOP], C + S + O)
        self.tells(row, row[1:] + [WORD], C)

    def test_against_long_numbers(self):
        source = steady(8)
        for n in list(range(1, 20)) * 20 + [255, 256]:
            z = [source.choice((0, WORD, any_word(source))) for _ in range(n)]
            x = [source.choice((z[k], z[k], any_word(source))) for k in range(n)]
            flags = source.getrandbits(32)
            self.assertEqual(order(z, x, flags), long_model.answer(long_model.order(z, x, flags)))

    def test_flags_are_those_of_sub_with_carry_clear(self):
        source = steady(9)
        for n in (1, 2, 5, 256):
            for _ in range(20):
                z = [any_word(source) for _ in range(n)]
                x = [any_word(source) for _ in range(n)]
                flags = source.getrandbits(32)
                told = desk.sub([n], z, [], x, [flags & ~C], [])[-1]
                self.assertEqual(order(z, x, flags | C), [0, 0, 0, 1, told])
                self.assertEqual(order(z, x, flags & ~C), [0, 0, 0, 1, told])

    def test_flags_of_all_kinds(self):
        for flags in range(4096):
            self.assertEqual(order([8, 8], [8, 8], flags), [0, 0, 0, 1, Z + (flags & D)])

    def test_bits_that_are_no_flag_are_nothing(self):
        others = 0xFFFFFFFF & ~ALL
        for flags in (0, C, D, ALL):
            self.assertEqual(order([1, 2], [3, 1], flags | others), order([1, 2], [3, 1], flags))

    def test_call(self):
        given = dict(n=[2], z=[0, 4], empty=[], x=[1, 5], flags=[0xFFFFFFFF], bare=[])
        self.check_call(desk.order, given, [0, 0, 0, 1, C + S + D])

    def test_one_row_as_both(self):
        row = [WORD, 1]
        self.assertEqual(desk.order([2], row, [], row, [C], []), [0, 0, 0, 1, Z])
        self.assertEqual(row, [WORD, 1])


if __name__ == "__main__":
    unittest.main()
