"""Rows: two."""

import unittest

import long_model
from helpers import ALL, C, D, O, TOP, WORD, RowCase, any_word, steady
from wordmill import desk

REST = ALL - C - O


def two(z, y, x, flags):
    return desk.two([len(z)], z, y, x, [flags], [])


class Two(RowCase):
    def tells(self, z, y, x, before, z_then, y_then, after):
        """No flag but C and O is looked at, none but these changes."""
        n = len(z)
        for rest in (0, D, REST, REST - D):
            answer = [0, n] + z_then + [n] + y_then + [1, after + rest]
            self.assertEqual(two(z, y, x, before + rest), answer, (z, y, x, before + rest))

    def test_one_word(self):
        self.tells([1], [2], [10], 0, [11], [12], 0)
        self.tells([1], [2], [10], C, [12], [12], 0)
        self.tells([1], [2], [10], O, [11], [13], 0)
        self.tells([1], [2], [10], C + O, [12], [13], 0)
        self.tells([0], [0], [0], 0, [0], [0], 0)
        self.tells([TOP], [TOP - 1], [TOP - 1], 0, [WORD], [WORD - 1], 0)

    def test_each_passes_by_itself(self):
        self.tells([WORD], [0], [1], 0, [0], [1], C)
        self.tells([0], [WORD], [1], 0, [1], [0], O)
        self.tells([WORD], [WORD], [1], 0, [0], [0], C + O)
        self.tells([WORD], [WORD], [0], C, [0], [WORD], C)
        self.tells([WORD], [WORD], [0], O, [WORD], [0], O)
        self.tells([WORD], [WORD], [0], C + O, [0], [0], C + O)
        self.tells([WORD], [WORD], [0], 0, [WORD], [WORD], 0)
        self.tells([WORD], [0], [WORD], C + O, [WORD], [0], C + O)
        self.tells([TOP], [TOP - 1], [TOP], 0, [0], [WORD], C)
        self.tells([TOP - 1], [TOP], [TOP], 0, [WORD], [0], O)

    def test_two_words(self):
        self.tells([WORD, 1], [1, 2], [1, 10], 0, [0, 12], [2, 12], 0)
        self.tells([1, 1], [WORD, 2], [1, 10], 0, [2, 11], [0, 13], 0)
        self.tells([WORD, WORD], [0, 0], [0, 0], C, [0, 0], [0, 0], C)
        self.tells([0, 0], [WORD, WORD], [0, 0], O, [0, 0], [0, 0], O)
        self.tells([WORD, WORD], [WORD, WORD], [0, 0], O, [WORD, WORD], [0, 0], O)
        self.tells([WORD, WORD], [WORD, WORD], [0, 0], C, [0, 0], [WORD, WORD], C)
        self.tells([5, WORD], [6, TOP], [0, 1], C + O, [6, 0], [7, TOP + 1], C)

    def test_256_words(self):
        ones, none = [WORD] * 256, [0] * 256
        one = [1] + [0] * 255
        self.tells(ones, none, one, 0, none, one, C)
        self.tells(none, ones, one, 0, one, none, O)
        self.tells(ones, ones, none, C + O, none, none, C + O)
        self.tells(ones, ones, none, O, ones, none, O)
        self.tells(ones, none, ones, C + O, ones, none, C + O)
        self.tells(ones[:255] + [0], none, one, 0, [0] * 255 + [1], one, 0)

    def test_against_long_numbers(self):
        source = steady(10)
        for n in list(range(1, 20)) * 20 + [255, 256]:
            x = [source.choice((0, WORD, any_word(source))) for _ in range(n)]
            z = [source.choice((WORD - x[k], any_word(source))) for k in range(n)]
            y = [source.choice((WORD - x[k], any_word(source))) for k in range(n)]
            flags = source.getrandbits(32)
            self.assertEqual(two(z, y, x, flags), long_model.answer(long_model.two(z, y, x, flags)))

    def test_flags_of_all_kinds(self):
        for flags in range(4096):
            z, y = 15 + flags % 2, 11 + flags // O
            answer = [0, 2, z, 17, 2, y, 13, 1, flags & REST]
            self.assertEqual(two([7, 8], [3, 4], [8, 9], flags), answer)

    def test_bits_that_are_no_flag_are_nothing(self):
        others = 0xFFFFFFFF & ~ALL
        for flags in (0, C, O, D, ALL):
            self.assertEqual(two([1, 2], [3, 4], [5, 6], flags | others), two([1, 2], [3, 4], [5, 6], flags))

    def test_call(self):
        given = dict(n=[2], z=[WORD, 3], y=[6, WORD], x=[1, 5], flags=[0xFFFFFFFF], bare=[])
        self.check_call(desk.two, given, [0, 2, 1, 9, 2, 8, 4, 1, ALL - C])

    def test_one_row_as_all(self):
        row = [WORD, 1]
        self.assertEqual(desk.two([2], row, row, row, [O], []), [0, 2, WORD - 1, 3, 2, WORD, 3, 1, 0])
        self.assertEqual(row, [WORD, 1])


if __name__ == "__main__":
    unittest.main()
