"""Operations 47 to 56."""

import unittest

from helpers import ALL, C, D, DeskCase, insn, registers, word

HIGHS = (0xAAAAAAAAAAAA0000, 0x5555555555550000)

# operation, the lowest 16 bits, flags before, these bits then, flags then
ADJUSTED = (
    (47, 0x5500, "CPAZSDO", 0x5566, "CAPD"),
    (47, 0x5512, "O", 0x5512, "P"),
    (47, 0x550A, "", 0x5510, "A"),
    (47, 0x5509, "", 0x5509, "P"),
    (47, 0x5509, "A", 0x550F, "PA"),
    (47, 0x5599, "", 0x5599, "PS"),
    (47, 0x559A, "", 0x5500, "CPAZ"),
    (47, 0x55A0, "", 0x5500, "CPZ"),
    (47, 0x5520, "C", 0x5580, "CS"),
    (47, 0x55FF, "", 0x5565, "CPA"),
    (48, 0x5512, "OD", 0x5512, "PD"),
    (48, 0x550F, "", 0x5509, "PA"),
    (48, 0x5503, "A", 0x55FD, "CAS"),
    (48, 0x5505, "A", 0x55FF, "CPAS"),
    (48, 0x5506, "A", 0x5500, "PAZ"),
    (48, 0x55EE, "CA", 0x5588, "CPAS"),
    (48, 0x559A, "", 0x5534, "CA"),
    (48, 0x5560, "C", 0x5500, "CPZ"),
    (48, 0x5500, "CA", 0x559A, "CPAS"),
    (49, 0x0209, "CPZSDO", 0x0209, "PD"),
    (49, 0x020A, "", 0x0300, "CPAZ"),
    (49, 0x02F5, "", 0x0205, "P"),
    (49, 0x02F5, "A", 0x030B, "CA"),
    (49, 0x02FF, "", 0x0405, "CPA"),
    (49, 0x7FFF, "", 0x8105, "CPA"),
    (49, 0xFFFE, "", 0x0104, "CA"),
    (50, 0x0209, "CPZSDO", 0x0209, "PD"),
    (50, 0x020B, "", 0x0105, "CPA"),
    (50, 0x820B, "", 0x8105, "CPA"),
    (50, 0x0203, "A", 0x000D, "CA"),
    (50, 0x0003, "A", 0xFE0D, "CA"),
    (50, 0x0036, "A", 0xFF00, "CPAZ"),
)

# operation, the lowest 16 bits, z, these bits then, flags then
BY_Z = (
    (51, 0x5563, 10, 0x0909, "P"),
    (51, 0x55FF, 16, 0x0F0F, "P"),
    (51, 0x55FF, 1, 0xFF00, "PZ"),
    (51, 0x5500, 7, 0x0000, "PZ"),
    (51, 0x55FE, 255, 0x00FE, "S"),
    (51, 0x55FF, -1, 0x0100, "PZ"),
    (51, 0x5563, 0x10A, 0x0909, "P"),
    (52, 0x0909, 10, 0x0063, "P"),
    (52, 0xFFFF, 255, 0x0000, "PZ"),
    (52, 0x1234, 0, 0x0034, ""),
    (52, 0x0280, 0, 0x0080, "S"),
    (52, 0x0305, -1, 0x0002, ""),
    (52, 0x0909, 0x70A, 0x0063, "P"),
)

# operation, a, src, flags before, a then, flags then
DIGITS = (
    (53, 0x0000000000000019, 0x0000000000000023, "PAZSDO", 0x42, "PD"),
    (53, 0x0000000000000019, 0x0000000000000023, "C", 0x43, ""),
    (53, 0x9999999999999999, 0x0000000000000001, "", 0, "CPZ"),
    (53, 0x9999999999999999, 0x9999999999999999, "C", 0x9999999999999999, "CP"),
    (53, 0x9999999999999999, 0, "C", 0, "CPZ"),
    (53, 0x7999999999999999, 1, "", 0x8000000000000000, "P"),
    (54, 0x0000000000000042, 0x0000000000000023, "PAZSDO", 0x19, "D"),
    (54, 0x0000000000000042, 0x0000000000000023, "C", 0x18, "P"),
    (54, 0, 1, "", 0x9999999999999999, "CP"),
    (54, 0, 0x9999999999999999, "C", 0, "CPZ"),
    (54, 0x1234567890123456, 0x1234567890123456, "", 0, "PZ"),
    (54, 0x1000000000000000, 0x0000000000000001, "", 0x0999999999999999, "P"),
)


class Adjusted(DeskCase):
    def test_after_sums_and_differences(self):
        for op, x, before, result, after in ADJUSTED:
            for form in range(8):
                number = insn(op, form % 4, form // 4, z=77)
                for high in HIGHS:
                    self.check(number, registers(r0=high + x), word(before), {0: high + result}, word(after))

    def test_by_z(self):
        for op, x, z, result, after in BY_Z:
            for form in range(8):
                for before in (0, ALL):
                    number = insn(op, form % 4, form // 4, z=z)
                    told = word(after) + (D if before else 0)
                    for high in HIGHS:
                        self.check(number, registers(r0=high + x), before, {0: high + result}, told)

    def test_by_0_stops(self):
        for form in range(8):
            for z in (0, 0x100, -0x100):
                self.stops(insn(51, form % 4, form // 4, z=z), registers(), 5)


class Digits(DeskCase):
    def test_sums_and_differences(self):
        for op, x, y, before, result, after in DIGITS:
            self.check(insn(op), registers(r0=x, r1=y), word(before), {0: result}, word(after))
            if y < 2**31:
                self.check(insn(op, i=1, z=y), registers(r0=x), word(before), {0: result}, word(after))

    def test_numbers_as_digits(self):
        cases = ((0, 0), (9, 9), (10, 0x10), (1234567890, 0x1234567890), (10**16 - 1, 0x9999999999999999))
        for number, digits in cases:
            for flags in (0, ALL):
                self.check(insn(55), registers(r1=number), flags, {0: digits}, flags)
                self.check(insn(56), registers(r1=digits), flags, {0: number}, flags)
        self.check(insn(55, i=1, z=255), registers(), 0, {0: 0x255}, 0)
        self.check(insn(56, i=1, z=0x255), registers(), 0, {0: 255}, 0)

    def test_too_large_a_number_stops(self):
        for number in (10**16, 2**64 - 1):
            self.stops(insn(55), registers(r1=number), 6)
        self.stops(insn(55, i=1, z=-1), registers(), 6)

    def test_what_is_no_digit_stops(self):
        for place in range(16):
            for digit in (10, 15):
                wrong = digit << (4 * place)
                for op in (53, 54):
                    self.stops(insn(op), registers(r0=wrong, r1=0), 6, C)
                    self.stops(insn(op), registers(r0=0, r1=wrong), 6)
                self.stops(insn(56), registers(r1=wrong), 6)
        for op in (53, 54, 56):
            self.stops(insn(op, i=1, z=-1), registers(r0=0), 6)
            self.stops(insn(op, i=1, z=10), registers(r0=0), 6)

    def test_a_is_no_matter_where_it_is_only_written(self):
        self.check(insn(55), registers(r0=2**64 - 1, r1=12), 0, {0: 0x12}, 0)
        self.check(insn(56), registers(r0=2**64 - 1, r1=0x12), 0, {0: 12}, 0)

    def test_another_width_stops(self):
        for op in (53, 54, 55, 56):
            for w in (0, 1, 2):
                for i in (0, 1):
                    self.stops(insn(op, w, i, z=1), registers(r0=0, r1=0), 3)
                    self.stops(insn(op, w, i, z=-1), registers(r0=2**64 - 1, r1=2**64 - 1), 3)


if __name__ == "__main__":
    unittest.main()
