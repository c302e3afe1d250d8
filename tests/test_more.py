"""Rows: more."""

import unittest

import long_model
from helpers import TOP, WORD, RowCase, any_word, steady
from wordmill import desk


def more(z, x, by, carry):
    return desk.more([len(z)], z, [], x, [by], [carry])


class More(RowCase):
    def test_one_word(self):
        for z, x, by, carry, result, passes in (
            (5, 7, 3, 2, 28, 0),
            (5, 7, 0, 0, 5, 0),
            (5, 7, 0, 2, 7, 0),
            (5, 7, 1, 0, 12, 0),
            (5, 0, WORD, 0, 5, 0),
            (0, 0, 0, 0, 0, 0),
            (0, 0, 0, WORD, WORD, 0),
            (1, 0, 0, WORD, 0, 1),
            (WORD, 0, 0, 1, 0, 1),
            (WORD, 1, 1, 0, 0, 1),
            (WORD, 1, 1, WORD, WORD, 1),
            (0, WORD, 1, 1, 0, 1),
            (0, WORD, WORD, 0, 1, WORD - 1),
            (WORD, WORD, WORD, 0, 0, WORD),
            (0, WORD, WORD, WORD, 0, WORD),
            (WORD, WORD, WORD, WORD, WORD, WORD),
            (0, TOP, 2, 0, 0, 1),
            (3, TOP, 5, 4, TOP + 7, 2),
        ):
            self.assertEqual(more([z], [x], by, carry), [0, 1, result, 0, 1, passes], (z, x, by, carry))

    def test_two_words(self):
        self.assertEqual(more([1, 2], [3, 4], 5, 6), [0, 2, 22, 22, 0, 1, 0])
        self.assertEqual(more([WORD, 2], [1, 4], 1, 0), [0, 2, 0, 7, 0, 1, 0])
        self.assertEqual(more([0, 0], [WORD, 0], WORD, 0), [0, 2, 1, WORD - 1, 0, 1, 0])
        self.assertEqual(more([0, 0], [0, WORD], WORD, 0), [0, 2, 0, 1, 0, 1, WORD - 1])
        self.assertEqual(more([WORD, WORD], [0, 0], 0, 1), [0, 2, 0, 0, 0, 1, 1])
        self.assertEqual(more([WORD, WORD], [0, 0], WORD, WORD), [0, 2, WORD - 1, 0, 0, 1, 1])
        self.assertEqual(more([7, 8], [0, 0], 0, 0), [0, 2, 7, 8, 0, 1, 0])

    def test_every_word_at_its_highest(self):
        for n in (1, 2, 3, 255, 256):
            ones, none = [WORD] * n, [0] * n
            self.assertEqual(more(ones, ones, WORD, WORD), [0, n] + ones + [0, 1, WORD])
            self.assertEqual(more(ones, ones, WORD, 0), [0, n, 0] + ones[1:] + [0, 1, WORD])
            self.assertEqual(more(ones, ones, 0, 0), [0, n] + ones + [0, 1, 0])
            self.assertEqual(more(ones, none, WORD, 1), [0, n] + none + [0, 1, 1])
            self.assertEqual(more(none, ones, 1, 1), [0, n] + none + [0, 1, 1])
            self.assertEqual(more(none, ones, 1, 0), [0, n] + ones + [0, 1, 0])
            self.assertEqual(more(none, ones, WORD, WORD), [0, n] + none + [0, 1, WORD])

    def test_against_long_numbers(self):
        source = steady(11)
        for n in list(range(1, 20)) * 20 + [255, 256]:
            z = [source.choice((0, WORD, any_word(source))) for _ in range(n)]
            x = [source.choice((0, WORD, any_word(source))) for _ in range(n)]
            by, carry = (source.choice((0, 1, WORD, any_word(source), any_word(source))) for _ in range(2))
            self.assertEqual(more(z, x, by, carry), long_model.answer(long_model.more(z, x, by, carry)))

    def test_call(self):
        given = dict(n=[2], z=[WORD, 3], empty=[], x=[1, TOP], by=[4], carry=[9])
        self.check_call(desk.more, given, [0, 2, 12, 4, 0, 1, 2])

    def test_one_row_as_both(self):
        row = [WORD, 1]
        self.assertEqual(desk.more([2], row, [], row, [1], [0]), [0, 2, WORD - 1, 3, 0, 1, 0])
        self.assertEqual(row, [WORD, 1])


if __name__ == "__main__":
    unittest.main()
