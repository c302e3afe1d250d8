"""run, rows: operations 102 to 110 and 112."""

import unittest

import long_model
from helpers import (
    ALL, C, D, O, P, S, TOP, WORD, Z, RunCase, any_digits, any_word, eight, insn, registers, row_bytes, steady,
)

AT_A, AT_B, AT_C, AT_D = 0x8000, 0xA000, 0xB000, 0xC000
ROWS = (102, 103, 104, 105, 106, 107, 108, 110, 112)
NINES = 0x9999999999999999
WITH_X = (102, 103, 104, 105, 106, 109, 110, 112)
WITH_Y = (104, 106, 109)
BY_WORD = (105, 107, 108)


def places(**given):
    return registers(**{"r0": AT_A, "r1": AT_B, "r2": AT_C, "r3": AT_D, **given})


class ByHand(RunCase):
    """Written-out numbers, at every form."""

    def each(self, op, z, x, y, z_then, y_then, flags, after, regs=None, changed=None):
        regs = places() if regs is None else regs
        data = {AT_A - 8: [0xEE] * (8 * len(z_then or z) + 16), AT_A: row_bytes(z), AT_B: row_bytes(x)}
        stored = {AT_A: row_bytes(z_then)}
        if y:
            data.update({AT_C - 8: [0xEE] * (8 * len(y) + 16), AT_C: row_bytes(y)})
            stored[AT_C] = row_bytes(y_then)
        for form in range(8):
            code = insn(op, form % 4, form // 4, z=len(x or z))
            self.does(code, regs, flags, data, changed, after, stored)

    def test_add(self):
        self.each(102, [5], [7], [], [12], [], 0, 0)
        self.each(102, [WORD, 1], [0, 2], [], [0, 4], [], ALL, D)
        self.each(102, [WORD, WORD], [1, 0], [], [0, 0], [], P, C + Z)
        self.each(102, [0, TOP - 1], [0, 1], [], [0, TOP], [], 0, S + O)

    def test_sub(self):
        self.each(103, [5], [7], [], [WORD - 1], [], 0, C + S)
        self.each(103, [0, 3], [0, 2], [], [WORD, 0], [], ALL, D)
        self.each(103, [9, 9], [9, 9], [], [0, 0], [], ALL - C, D + Z)

    def test_two(self):
        self.each(104, [WORD], [1], [5], [0], [6], 0, C)
        self.each(104, [1, 2], [0, WORD], [3, 4], [2, 1], [4, 3], ALL, ALL)
        self.each(104, [1, 2], [0, 1], [3, 4], [1, 3], [4, 5], O + S, S)

    def test_more(self):
        regs = places(r2=10, r3=7)
        self.each(105, [5], [3], [], [42], [], ALL, ALL, regs, {3: 0})
        regs = places(r2=WORD, r3=WORD)
        self.each(105, [WORD, WORD], [WORD, WORD], [], [WORD, WORD], [], 0, 0, regs, {3: WORD})
        self.each(105, [0, 0], [0, WORD], [], [WORD, 1], [], 0, 0, regs, {3: WORD - 1})

    def test_product(self):
        self.each(106, [], [6], [7], [42, 0], [7], ALL, ALL)
        self.each(106, [1, 2, 3, 4], [2, 3], [5, 7], [10, 29, 21, 0], [5, 7], 0, 0)

    def test_left(self):
        for by in (1, 65, WORD - 62):
            regs = places(r2=by, r3=TOP)
            self.each(107, [TOP + 1], [], [], [3], [], ALL, ALL, regs, {3: 1})
            self.each(107, [TOP + 1, 4], [], [], [3, 9], [], 0, 0, regs, {3: 0})
        for by in (0, 64, WORD - 63):
            self.each(107, [7, 8], [], [], [7, 8], [], 0, 0, places(r2=by, r3=WORD), {3: 0})
        self.each(107, [WORD], [], [], [WORD], [], 0, 0, places(r2=63, r3=WORD), {3: TOP - 1})

    def test_right(self):
        for by in (1, 65, WORD - 62):
            regs = places(r2=by, r3=1)
            self.each(108, [3], [], [], [TOP + 1], [], ALL, ALL, regs, {3: TOP})
            self.each(108, [2, 5], [], [], [TOP + 1, TOP + 2], [], 0, 0, regs, {3: 0})
        for by in (0, 64, WORD - 63):
            self.each(108, [7, 8], [], [], [7, 8], [], 0, 0, places(r2=by, r3=WORD), {3: 0})

    def test_order(self):
        self.each(110, [5], [5], [], [5], [], ALL, D + Z)
        self.each(110, [5], [6], [], [5], [], C, C + S)
        self.each(110, [9, TOP], [0, 1], [], [9, TOP], [], C, O)

    def test_decimal(self):
        self.each(112, [0x19], [0x23], [], [0x42], [], 0, 0)
        self.each(112, [NINES, 0x79 << 56], [0, 0], [], [0, (0x79 << 56) + 1], [], ALL, D)
        self.each(112, [NINES, NINES], [1, 0], [], [0, 0], [], 0, C + Z)

    def test_digits(self):
        low, high = list(range(8)), [WORD] * 8
        data = {AT_A: row_bytes(low), AT_D: row_bytes(high)}
        data.update({AT_B: row_bytes([2**51 + 2**60] * 8), AT_C: row_bytes([3] * 8)})
        stored = {AT_A: row_bytes([2**51 + k for k in range(8)]), AT_D: row_bytes([0] * 8)}
        for form in range(8):
            for z in (0, 1, 8, 257, -1, 2**31 - 1, -(2**31)):
                self.does(insn(109, form % 4, form // 4, z=z), places(), ALL, data, {}, ALL, stored)


class AsTheCalls(RunCase):
    """Rows of every length, held against long numbers."""

    def any_row(self, source, n, op):
        if op == 112:
            return [source.choice((0, NINES, any_digits(source))) for _ in range(n)]
        return [source.choice((0, WORD, any_word(source))) for _ in range(n)]

    def told(self, op, z, y, x, by, more, flags):
        """z's row, y's row and the word."""
        by_flags = {102: long_model.add, 103: long_model.sub, 110: long_model.order, 112: long_model.decimal}
        if op in by_flags:
            return by_flags[op](z, x, flags)
        if op == 104:
            return long_model.two(z, y, x, flags)
        if op == 105:
            return long_model.more(z, x, by, more)
        if op == 106:
            return long_model.product(y, x)
        return {107: long_model.left, 108: long_model.right}[op](z, by % 64, more)

    def check(self, source, op, n):
        z, y, x = (self.any_row(source, n, op) for _ in range(3))
        by, more, flags = any_word(source), any_word(source), source.getrandbits(32)
        regs = places(r3=more)
        data = {AT_A: row_bytes(z), AT_B: row_bytes(x)}
        if op in WITH_Y:
            data[AT_C] = row_bytes(y)
        elif op in BY_WORD:
            regs[2] = by
        z_then, y_then, word = self.told(op, z, y, x, by, more, flags)
        stored = {AT_A: row_bytes(z_then), AT_C: row_bytes(y_then)}
        changed = {3: word} if op in BY_WORD else {}
        after = flags & ALL if op in BY_WORD or op == 106 else word
        self.does(insn(op, z=n), regs, flags, data, changed, after, stored)

    def test_each(self):
        source = steady(24)
        for op in ROWS:
            for n in (1, 1, 2, 2, 3, 7, 64, 255, 256, 256):
                self.check(source, op, n)


class Lengths(RunCase):
    def test_no_such_length(self):
        for op in ROWS:
            for z in (0, 257, 258, 512, -1, -256, 2**31 - 1, -(2**31)):
                self.halts(insn(op, z=z), places(), 3, data={AT_A: [1] * 64, AT_B: [2] * 64})

    def test_no_such_length_goes_before_bytes_that_are_not_there(self):
        for op in ROWS:
            for z in (0, 257, -1):
                self.halts(insn(op, z=z), [WORD] * 16, 3)


class NotThere(RunCase):
    def users(self, op):
        """The registers that lead to rows, and how many words each has for n."""
        users = {0: 2 if op == 106 else 1}
        if op in WITH_X:
            users[1] = 1
        if op in WITH_Y:
            users[2] = 1
        if op == 109:
            users[3] = 1
        return users

    def test_rows_that_are_not_all_there(self):
        for op in ROWS + (109,):
            for n in (1, 2, 256):
                for number, times in self.users(op).items():
                    size = 8 * times * (8 if op == 109 else n)
                    for place in (65537 - size, 65529, 65535, 65536, 2**32, 2**63, WORD - size + 1, WORD - 7, WORD):
                        regs = places()
                        regs[number] = place
                        data = {AT_A: [1] * 16, AT_B: [2] * 16, 65536 - 16: [3] * 16}
                        self.halts(insn(op, z=n), regs, 4, data=data)

    def test_rows_at_both_ends(self):
        for op in ROWS + (109,):
            for n in (1, 2, 256):
                for number, times in self.users(op).items():
                    size = 8 * times * (8 if op == 109 else n)
                    for place in (0, 65536 - size):
                        regs = places()
                        regs[number] = place
                        then = self.ran([insn(op, z=n)], regs)
                        self.assertEqual([then.done, then.why], [1, 0], (op, n, number, place))

    def test_registers_that_lead_to_no_row_are_no_matter(self):
        for op in ROWS:
            for number in sorted({0, 1, 2, 3} - set(self.users(op))):
                regs = places()
                regs[number] = WORD
                then = self.ran([insn(op, z=2)], regs)
                self.assertEqual([then.done, then.why], [1, 0], (op, number))


class Digits(RunCase):
    def test_what_is_no_digit_stops(self):
        for n in (1, 2, 256):
            for at in sorted({0, n - 1}):
                wrong = [NINES] * n
                wrong[at] = 0xA << 60
                for z, x in ((wrong, [0] * n), ([NINES] * n, wrong)):
                    data = {AT_A: row_bytes(z), AT_B: row_bytes(x)}
                    self.halts(insn(112, z=n), places(), 6, C, data)

    def test_bytes_that_are_not_there_go_before_digits(self):
        self.halts(insn(112, z=1), places(r1=65536), 4, data={AT_A: [0xFF] * 8})

    def test_what_lies_behind_is_no_matter(self):
        data = {AT_A: row_bytes([1, WORD]), AT_B: row_bytes([2, WORD])}
        self.does(insn(112, z=1), places(), 0, data, {}, 0, {AT_A: eight(3)})


class OverOneAnother(RunCase):
    def test_one_row_for_both(self):
        data = {AT_A: row_bytes([WORD, 5])}
        regs = places(r1=AT_A)
        self.does(insn(102, z=2), regs, 0, data, {}, 0, {AT_A: row_bytes([WORD - 1, 11])})
        self.does(insn(103, z=2), regs, 0, data, {}, Z, {AT_A: row_bytes([0, 0])})
        self.does(insn(102, a=0, b=0, z=2), regs, 0, data, {}, 0, {AT_A: row_bytes([WORD - 1, 11])})
        self.does(insn(110, z=2), regs, C, data, {}, Z)

    def test_all_is_read_before_anything_is_written(self):
        data = {AT_A: row_bytes([1, 10, 100, 1000])}
        regs = places(r1=AT_A - 8)
        self.does(insn(102, z=3), regs, 0, data, {}, 0, {AT_A: row_bytes([1, 11, 110])})
        regs = places(r1=AT_A + 8)
        self.does(insn(102, z=3), regs, 0, data, {}, 0, {AT_A: row_bytes([11, 110, 1100])})
        regs = places(r1=AT_A - 8, r2=2, r3=0)
        self.does(insn(105, z=3), regs, 0, data, {3: 0}, 0, {AT_A: row_bytes([1, 12, 120])})
        data = {AT_A: row_bytes([0x19, 0x10, 0x100])}
        self.does(insn(112, z=3), places(r1=AT_A - 8), 0, data, {}, 0, {AT_A: row_bytes([0x19, 0x29, 0x110])})

    def test_product_over_its_factors(self):
        data = {AT_A: row_bytes([2, 3, 5, 7])}
        result = {AT_A: row_bytes([10, 29, 21, 0])}
        self.does(insn(106, z=2), places(r1=AT_A, r2=AT_A + 16), 0, data, {}, 0, result)
        self.does(insn(106, z=2), places(r1=AT_A + 16, r2=AT_A), 0, data, {}, 0, result)
        result = {AT_A: row_bytes([4, 12, 9, 0])}
        self.does(insn(106, z=2), places(r1=AT_A, r2=AT_A), 0, data, {}, 0, result)

    def test_two_writes_z_before_y(self):
        data = {AT_A: row_bytes([1, 10, 100])}
        x = {AT_B: row_bytes([5, 6])}
        regs = places(r2=AT_A)
        self.does(insn(104, z=2), regs, O, {**data, **x}, {}, 0, {AT_A: row_bytes([7, 16, 100])})
        regs = places(r2=AT_A + 8)
        self.does(insn(104, z=2), regs, 0, {**data, **x}, {}, 0, {AT_A: row_bytes([6, 15, 106])})
        regs = places(r0=AT_A + 8, r2=AT_A)
        self.does(insn(104, z=2), regs, 0, {**data, **x}, {}, 0, {AT_A: row_bytes([6, 16, 106])})

    def test_two_over_x(self):
        data = {AT_A: row_bytes([1, 2]), AT_B: row_bytes([5, 6])}
        regs = places(r2=AT_B)
        self.does(insn(104, z=2), regs, 0, data, {}, 0, {AT_A: row_bytes([6, 8]), AT_B: row_bytes([10, 12])})

    def test_digits_write_low_before_high(self):
        data = {AT_A: row_bytes([1] * 9), AT_B: row_bytes([2**51] * 8), AT_C: row_bytes([6] * 8)}
        regs = places(r3=AT_A)
        self.does(insn(109), regs, 0, data, {}, 0, {AT_A: row_bytes([4] * 8)})
        regs = places(r3=AT_A + 8)
        data[AT_C] = row_bytes([7] * 8)
        self.does(insn(109), regs, 0, data, {}, 0, {AT_A: row_bytes([2**51 + 1] + [4] * 8)})
        regs = places(r0=AT_A + 8, r3=AT_A)
        self.does(insn(109), regs, 0, data, {}, 0, {AT_A: row_bytes([4] * 8 + [2**51 + 1])})

    def test_the_word_goes_last_where_its_register_leads_to_the_row(self):
        data = {AT_A: row_bytes([TOP + 1])}
        self.does(insn(107, d=0, z=1), places(r2=1), 0, data, {0: 1}, 0, {AT_A: row_bytes([2])})
        self.does(insn(108, d=0, z=1), places(r2=1), 0, data, {0: TOP}, 0, {AT_A: row_bytes([TOP // 2])})
        self.does(insn(107, d=2, z=1), places(r2=1), 0, data, {2: 1}, 0, {AT_A: row_bytes([2])})
        data[AT_B] = row_bytes([TOP])
        self.does(insn(105, d=0, z=1), places(r2=2), 0, data, {0: 1}, 0, {AT_A: row_bytes([TOP + 1 + AT_A])})
        self.does(insn(105, d=1, z=1), places(r2=2), 0, data, {1: 1}, 0, {AT_A: row_bytes([TOP + 1 + AT_B])})

    def test_a_row_over_the_instruction_itself(self):
        code = insn(102, z=1)
        then = self.ran([code, insn(18, a=5)], registers(r0=0x4000, r1=AT_B, r5=0), 0, {AT_B: eight(1)}, 9)
        self.assertEqual([then.done, then.why, then.regs[5]], [2, 1, 1])
        self.assertEqual(then.cells[0x4000:0x4008], eight(code + 1))

    def test_places_that_are_no_multiple_of_8(self):
        data = {AT_A + 3: row_bytes([WORD, 0]), AT_B + 5: row_bytes([1, 0])}
        regs = places(r0=AT_A + 3, r1=AT_B + 5)
        self.does(insn(102, z=2), regs, 0, data, {}, 0, {AT_A + 3: row_bytes([0, 1])})


if __name__ == "__main__":
    unittest.main()
