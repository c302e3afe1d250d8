"""The form of do's answers, its stops, and what holds for every operation."""

import unittest

from helpers import ALL, DONE, Z, DeskCase, Fixed, insn, registers, word
from wordmill import desk

HIGH = 0xFFFFFFFFFFFFFFFF
SIX = "CPAZSO"

# the flags that each operation tells, once it does something
TOLD = {op: "" for op in (1, 2, 3, 5, 6, 17, 36, 40, 41, 55, 56, 59, 60, 61, 73, 74, 79, 80, 81, 82, 83)}
TOLD.update({op: SIX for op in (7, 8, 9, 10, 11, 12, 13, 14, 15, 16, 20, 21, 22, 23, 24, 29, 30)})
TOLD.update({op: SIX for op in (47, 48, 49, 50, 51, 52, 53, 54, 57, 58, 68, 69, 70, 71, 72, 75, 76, 77, 78)})
TOLD.update({18: "PAZSO", 19: "PAZSO", 25: "CO", 26: "CO", 27: "CO", 28: "CO", 37: "CPAZS"})
TOLD.update({31: "C", 32: "C", 33: "C", 34: "D", 35: "D", 62: "C", 63: "C", 64: "C", 65: "C", 66: "Z", 67: "Z"})

# operations that write k bits into a, whatever these are
AT_WIDTH = [1, 3, 7, 8, 9, 10, 12, 13, 14, 16, 17, 18, 19, 20] + list(range(22, 31)) + [41]
AT_WIDTH += list(range(57, 62)) + list(range(63, 84))
STOPS_WITH_Z = (3, 20)


def forms(op):
    """Each width and i with which the operation is done, over registers that let it be."""
    for w in range(4):
        for i in (0, 1):
            fits = (w == 3 or op not in (53, 54, 55, 56)) and (w > 0 or op not in (29, 30))
            if fits and not (i and op in STOPS_WITH_Z):
                yield w, i, insn(op, w, i, d=4, z=5)


def calm():
    """With these every operation is done: digits, a quotient that fits; with Z condition 4 holds."""
    return registers(r0=0x0000000000000037, r1=0x0000000000000025, r2=0x0000000000000002, r4=0x11)


class Answers(DeskCase):
    def test_order_of_the_numbers(self):
        regs = list(range(100, 116))
        self.assertEqual(desk.do([insn(32)], regs, [64]), [0, 16] + regs + [1, 65])

    def test_register_15_and_0_are_in_their_places(self):
        regs = list(range(100, 116))
        regs_then, flags = self.done(insn(1, a=15, b=0), regs)
        self.assertEqual(regs_then, regs[:15] + [100])
        regs_then, flags = self.done(insn(1, a=0, b=15), regs)
        self.assertEqual(regs_then, [115] + regs[1:])

    def test_fields_where_the_document_puts_them(self):
        number = 0x80000000_00_00_00_00 | 0x21 << 24 | 0x43 << 16 | 0x07 << 8 | 1
        self.check(number, registers(), 0, {3: 0xFFFFFFFF80000000}, 0)
        number = 0x21 << 24 | 0x43 << 16 | 0x03 << 8 | 59
        self.check(number, registers(r1=2**63, r2=6), 0, {3: 0, 4: 3}, 0)

    def test_every_answer_is_of_whole_numbers(self):
        for op in DONE:
            for w, i, number in forms(op):
                for flags in (0, ALL):
                    answer = desk.do([number], calm(), [flags])
                    self.assertEqual(len(answer), 20, op)
                    self.assertTrue(isinstance(answer, list))
                    self.assertEqual({type(value) for value in answer}, {int})
                    self.assertTrue(all(0 <= value < 2**64 for value in answer))

    def test_nothing_handed_in_is_changed(self):
        for op in range(256):
            for form in range(9):
                given = Fixed([insn(op, 0, 0, z=5) | form << 8]), Fixed(calm()), Fixed([0xFFFFFFFF])
                before = [list(one) for one in given]
                desk.do(*given)
                self.assertEqual([list(one) for one in given], before)

    def test_nothing_is_kept(self):
        first = desk.do([insn(8)], registers(), [1])
        desk.do([insn(35)], registers(r0=5), [ALL])
        self.assertEqual(desk.do([insn(8)], registers(), [1]), first)

    def test_names_of_what_is_handed_in(self):
        answer = desk.do(insn=[31], regs=[0] * 16, flags=[1])
        self.assertEqual(answer, [0, 16] + [0] * 16 + [1, 0])

    def test_the_answer_is_a_list_of_its_own(self):
        regs = registers()
        answer = desk.do([insn(1)], regs, [0])
        answer[5] = 7
        self.assertEqual(regs, registers())


class EveryFlag(DeskCase):
    def test_flags_that_are_not_told_stay(self):
        for op in DONE:
            stay = ALL & ~word(TOLD[op])
            for w, i, number in forms(op):
                for flags in [0, ALL] + [1 << place for place in (0, 2, 4, 6, 7, 10, 11)]:
                    regs_then, after = self.done(number, calm(), flags)
                    self.assertEqual(after & stay, flags & stay, (op, w, i, flags))

    def test_bits_that_are_no_flag_are_nothing(self):
        others = 0xFFFFFFFF & ~ALL
        for op in DONE:
            for w, i, number in forms(op):
                for flags in (0, ALL, 0x41):
                    wanted = desk.do([number], calm(), [flags])
                    self.assertEqual(desk.do([number], calm(), [flags | others]), wanted)
                    self.assertEqual(wanted[19] & ~ALL, 0)


class EveryWidth(DeskCase):
    def test_bits_above_the_width(self):
        for op in AT_WIDTH:
            for w, i, number in forms(op):
                k = 8 << w
                regs = calm()
                regs[0] = (HIGH >> k << k) | 0x37
                regs_then, flags = self.done(number, regs, Z)
                above = regs_then[0] >> k
                self.assertEqual(above, HIGH >> k if k < 32 else 0, (op, w, i))


class Stops(DeskCase):
    def test_second_byte_above_7(self):
        for op in DONE:
            for form in (8, 9, 11, 12, 15, 16, 64, 128, 255):
                self.stops(insn(op, 0, 0, z=5) | form << 8, calm(), 3)

    def test_what_do_does_not_do(self):
        for op in range(256):
            if op not in DONE:
                for form in range(9):
                    self.stops(insn(op, 0, 0, z=5) | form << 8, calm(), 3)

    def test_not_done_are_0_4_38_39_42_to_46_and_84_on(self):
        others = [op for op in range(256) if op not in DONE]
        self.assertEqual(others, [0, 4, 38, 39, 42, 43, 44, 45, 46] + list(range(84, 256)))

    def test_a_form_that_is_none_goes_before_other_stops(self):
        self.stops(insn(60, 0, 0) | 8 << 8, registers(r1=0), 3)
        self.stops(insn(53, 3, 0) | 8 << 8, registers(r0=15), 3)


if __name__ == "__main__":
    unittest.main()
