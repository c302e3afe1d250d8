"""Operations 22 to 30."""

import unittest

from helpers import ALL, C, D, HIGH, O, S, DeskCase, insn, put, registers, word

# operation, w, a, n, flags before, a then, flags then
SHIFTS = (
    (22, 0, 0x81, 1, "CPAZSDO", 0x02, "CDO"),
    (22, 0, 0x40, 1, "", 0x80, "SO"),
    (22, 0, 0xC0, 1, "", 0x80, "CS"),
    (22, 0, 0x01, 8, "", 0x00, "CPZO"),
    (22, 0, 0xFF, 9, "CA", 0x00, "PZ"),
    (22, 0, 0xFF, 31, "CA", 0x00, "PZ"),
    (22, 1, 0x0003, 15, "", 0x8000, "CPS"),
    (22, 1, 0x0001, 16, "", 0, "CPZO"),
    (22, 1, 0xFFFF, 17, "CO", 0, "PZ"),
    (22, 2, 0x80000001, 1, "", 2, "CO"),
    (22, 2, 0x00000003, 31, "", 0x80000000, "CPS"),
    (22, 3, 0x0000000000000003, 63, "", 0x8000000000000000, "CPS"),
    (23, 0, 0x81, 1, "CPAZSD", 0x40, "CDO"),
    (23, 0, 0x7F, 1, "", 0x3F, "CP"),
    (23, 0, 0x80, 8, "", 0x00, "CPZO"),
    (23, 0, 0xFF, 9, "CA", 0x00, "PZO"),
    (23, 0, 0x7F, 31, "CO", 0x00, "PZ"),
    (23, 1, 0x8000, 16, "", 0, "CPZO"),
    (23, 1, 0xFFFF, 17, "C", 0, "PZO"),
    (23, 2, 0xFFFFFFFF, 31, "", 1, "CO"),
    (23, 3, 0x8000000000000000, 63, "", 1, "O"),
    (24, 0, 0x81, 1, "CPAZSDO", 0xC0, "CDPS"),
    (24, 0, 0x7E, 1, "O", 0x3F, "P"),
    (24, 0, 0x80, 8, "", 0xFF, "CPS"),
    (24, 0, 0x80, 9, "", 0xFF, "CPS"),
    (24, 0, 0x7F, 9, "CO", 0x00, "PZ"),
    (24, 0, 0x7F, 8, "CO", 0x00, "PZ"),
    (24, 1, 0x8000, 31, "", 0xFFFF, "CPS"),
    (24, 2, 0x80000000, 31, "", 0xFFFFFFFF, "PS"),
    (24, 3, 0xBFFFFFFFFFFFFFFF, 62, "", 0xFFFFFFFFFFFFFFFE, "CS"),
    (25, 0, 0x81, 1, "PAZSDO", 0x03, "CPAZSDO"),
    (25, 0, 0x81, 8, "", 0x81, "C"),
    (25, 0, 0x01, 16, "", 0x01, "CO"),
    (25, 0, 0x80, 24, "C", 0x80, "O"),
    (25, 1, 0x8001, 17, "", 0x0003, "CO"),
    (25, 2, 0x80000000, 4, "C", 0x00000008, ""),
    (25, 3, 0x8000000000000001, 4, "", 0x18, ""),
    (26, 0, 0x81, 1, "PAZSD", 0xC0, "CPAZSD"),
    (26, 0, 0x01, 1, "", 0x80, "CO"),
    (26, 0, 0x41, 8, "C", 0x41, "O"),
    (26, 1, 0x0001, 17, "", 0x8000, "CO"),
    (26, 2, 0x00000018, 4, "", 0x80000001, "CO"),
    (26, 3, 0x0000000000000003, 1, "", 0x8000000000000001, "CO"),
    (27, 0, 0x80, 1, "PAZSD", 0x00, "CPAZSDO"),
    (27, 0, 0x80, 1, "C", 0x01, "CO"),
    (27, 0, 0x40, 1, "C", 0x81, "O"),
    (27, 0, 0x01, 8, "C", 0x80, "C"),
    (27, 0, 0x55, 10, "C", 0xAB, "O"),
    (27, 1, 0x8000, 18, "", 0x0000, "CO"),
    (27, 2, 0x00000000, 31, "C", 0x40000000, ""),
    (27, 3, 0x8000000000000000, 1, "C", 1, "CO"),
    (28, 0, 0x01, 1, "PAZSD", 0x00, "CPAZSD"),
    (28, 0, 0x01, 1, "C", 0x80, "CO"),
    (28, 0, 0x80, 1, "C", 0xC0, ""),
    (28, 0, 0x01, 10, "C", 0x80, "CO"),
    (28, 1, 0x0002, 18, "C", 0x8001, "O"),
    (28, 2, 0x00000000, 31, "C", 0x00000002, ""),
    (28, 3, 0x0000000000000003, 1, "", 1, "C"),
)

# operation, w, a, b, n, a then, flags then
FILLED = (
    (29, 1, 0x1234, 0xABCD, 4, 0x234A, "C"),
    (29, 1, 0x4000, 0x8000, 1, 0x8001, "SO"),
    (29, 1, 0x8001, 0x0000, 15, 0x8000, "PS"),
    (29, 2, 0x80000000, 0x00000000, 1, 0, "CPZO"),
    (29, 2, 0x12345678, 0x9ABCDEF0, 8, 0x3456789A, "P"),
    (29, 3, 0x0123456789ABCDEF, 0xFEDCBA9876543210, 60, 0xFFEDCBA987654321, "PSO"),
    (30, 1, 0x1234, 0xABCD, 4, 0xD123, "SO"),
    (30, 1, 0x0001, 0x0000, 1, 0, "CPZ"),
    (30, 1, 0x8000, 0x0001, 1, 0xC000, "PS"),
    (30, 2, 0x12345678, 0x9ABCDEF0, 8, 0xF0123456, "PSO"),
    (30, 3, 0x0123456789ABCDEF, 0xFEDCBA9876543210, 60, 0xEDCBA98765432100, "PSO"),
)


class Shifts(DeskCase):
    def test_by_register_and_by_z(self):
        for op, w, x, n, before, result, after in SHIFTS:
            high = 0xFFFFFFFFFFFFFFC0 if w == 3 else 0xFFFFFFFFFFFFFFE0
            for told in (n, n | high):
                regs = registers(r0=put(w, x), r1=told)
                self.check(insn(op, w), regs, word(before), {0: put(w, result)}, word(after))
            for z in (n, n - 64, n + 64, n - 2**31):
                self.check(insn(op, w, 1, z=z), regs, word(before), {0: put(w, result)}, word(after))

    def test_by_0_nothing_is_done(self):
        for op in range(22, 31):
            for w in range(1 if op > 28 else 0, 4):
                whole = 64 if w == 3 else 32
                for n in (0, whole, 2 * whole, 2**64 - whole):
                    for flags in (0, ALL, 0x555, 0xAAA):
                        regs = registers(r0=HIGH, r1=n, r2=n)
                        self.check(insn(op, w), regs, flags, {}, flags & ALL)
                for z in (0, whole, -whole):
                    self.check(insn(op, w, 1, z=z), registers(r0=HIGH), ALL, {}, ALL)

    def test_modulus_is_64_for_64_bits_alone(self):
        for w in range(3):
            k = 8 << w
            self.check(insn(22, w, 1, z=33), registers(r0=HIGH), 0, {0: put(w, 0x5555555555555554 % 2**k)}, word("CO"))
        self.check(insn(22, 3, 1, z=33), registers(r0=1), 0, {0: 2**33}, word("P"))

    def test_the_32_bits_above_are_cleared(self):
        self.check(insn(22, 2, 1, z=1), registers(r0=0xFFFFFFFF00000001), 0, {0: 2}, 0)
        self.check(insn(25, 2, 1, z=1), registers(r0=0xFFFFFFFF00000001), 0, {0: 2}, 0)

    def test_turned_by_a_multiple_of_k_plus_1_nothing_is_done(self):
        for op in (27, 28):
            for w, counts in ((0, (9, 18, 27)), (1, (17,))):
                for n in counts:
                    for flags in (0, ALL, C, O, C + O, S + D):
                        regs = registers(r0=HIGH, r1=n)
                        self.check(insn(op, w), regs, flags, {}, flags)
                        self.check(insn(op, w, 1, z=n), regs, flags, {}, flags)

    def test_turned_by_a_multiple_of_k_tells_flags(self):
        for n in (8, 16, 24):
            self.check(insn(25, 0, 1, z=n), registers(r0=0x01), 0, {}, C + O)
            self.check(insn(26, 0, 1, z=n), registers(r0=0x80), 0, {}, C + O)
            self.check(insn(26, 0, 1, z=n), registers(r0=0x01), ALL, {}, ALL - C - O)

    def test_count_in_the_register_that_is_shifted(self):
        self.check(insn(22, 3, a=6, b=6), registers(r6=3), 0, {6: 24}, word("P"))
        self.check(insn(23, 0, a=6, b=6), registers(r6=0x0102), 0, {6: 0x0100}, word("CPZ"))


class Filled(DeskCase):
    def test_by_register_c_and_by_z(self):
        for op, w, x, y, n, result, after in FILLED:
            for before in (0, ALL):
                regs = registers(r0=put(w, x), r1=put(w, y), r2=n + 0xFFFFFFFFFFFFFF00)
                told = word(after) + (D if before else 0)
                self.check(insn(op, w), regs, before, {0: put(w, result)}, told)
                for z in (n, n - 64):
                    self.check(insn(op, w, 1, z=z), regs, before, {0: put(w, result)}, told)

    def test_16_bits_go_modulo_16_too(self):
        for op, result, after in ((29, 0x234A, "C"), (30, 0xD123, "SO")):
            regs = registers(r0=0x1234, r1=0xABCD, r2=20)
            self.check(insn(op, 1), regs, 0, {0: result}, word(after))
            self.check(insn(op, 1, 1, z=20), regs, 0, {0: result}, word(after))
        for op in (29, 30):
            for n in (16, 48):
                regs = registers(r0=HIGH, r2=n)
                self.check(insn(op, 1), regs, ALL, {}, ALL)
                self.check(insn(op, 1, 1, z=n), regs, 0, {}, 0)

    def test_8_bits_stop(self):
        for op in (29, 30):
            for n in (0, 3, 8):
                self.stops(insn(op, 0), registers(r2=n), 3)
                self.stops(insn(op, 0, 1, z=n), registers(), 3)

    def test_one_register_twice_is_turned(self):
        self.check(insn(29, 2, 1, a=4, b=4, z=4), registers(r4=0x12345678), 0, {4: 0x23456781}, word("CP"))
        self.check(insn(30, 2, 1, a=4, b=4, z=4), registers(r4=0x12345678), 0, {4: 0x81234567}, word("CSO"))


if __name__ == "__main__":
    unittest.main()
