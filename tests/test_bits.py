"""Operations 62 to 83."""

import unittest

from helpers import ALL, C, D, HIGH, Z, DeskCase, insn, put, registers, word

# operation, w, src, a then, flags then
COUNTS = (
    (68, 0, 0x00, 8, "C"),
    (68, 0, 0x01, 0, "Z"),
    (68, 0, 0x80, 7, ""),
    (68, 1, 0, 16, "C"),
    (68, 1, 0x0100, 8, ""),
    (68, 2, 0, 32, "C"),
    (68, 2, 0xFFFFFFF0, 4, ""),
    (68, 3, 0, 64, "C"),
    (68, 3, 0x8000000000000000, 63, ""),
    (69, 0, 0x00, 8, "C"),
    (69, 0, 0x80, 0, "Z"),
    (69, 0, 0x01, 7, ""),
    (69, 1, 0, 16, "C"),
    (69, 1, 0x00FF, 8, ""),
    (69, 2, 0, 32, "C"),
    (69, 2, 1, 31, ""),
    (69, 3, 0, 64, "C"),
    (69, 3, 1, 63, ""),
    (70, 0, 0x00, 0, "Z"),
    (70, 0, 0xFF, 8, ""),
    (70, 1, 0xFFFF, 16, ""),
    (70, 2, 0x80000001, 2, ""),
    (70, 3, 0, 0, "Z"),
    (70, 3, 0xFFFFFFFFFFFFFFFF, 64, ""),
)

# operation, w, b, the whole register c, a then, flags then
PICKED = (
    (71, 0, 0xB4, 0x0302, 0x05, ""),
    (71, 0, 0xB4, 0x0800, 0xB4, ""),
    (71, 0, 0xB4, 0xFF07, 0x01, ""),
    (71, 0, 0xB4, 0xFF08, 0x00, "Z"),
    (71, 0, 0xB4, 0x0002, 0x00, "Z"),
    (71, 0, 0xB4, 0xFFFFFFFFFFFF0302, 0x05, ""),
    (71, 1, 0xABCD, 0x0804, 0xBC, ""),
    (71, 2, 0x89ABCDEF, 0x2000, 0x89ABCDEF, ""),
    (71, 3, 0x89ABCDEF01234567, 0x103C, 0x8, ""),
    (71, 3, 0x89ABCDEF01234567, 0xFFFF, 0, "Z"),
    (72, 0, 0xFF, 3, 0x07, ""),
    (72, 0, 0xFF, 0, 0x00, "Z"),
    (72, 0, 0xFF, 7, 0x7F, ""),
    (72, 0, 0xFF, 8, 0xFF, "CS"),
    (72, 0, 0x00, 255, 0x00, "CZ"),
    (72, 1, 0xFFFF, 0x110C, 0x0FFF, ""),
    (72, 2, 0x80000000, 31, 0, "Z"),
    (72, 2, 0x80000000, 32, 0x80000000, "CS"),
    (72, 3, 0xFFFFFFFFFFFFFFFF, 0x13F, 0x7FFFFFFFFFFFFFFF, ""),
    (72, 3, 0xFFFFFFFFFFFFFFFF, 0x40, 0xFFFFFFFFFFFFFFFF, "CS"),
    (75, 0, 0x0F, 0xAAFF, 0xF0, "S"),
    (75, 1, 0xFF00, 0xFF00, 0, "Z"),
    (75, 2, 0, 0xFFFFFFFF00000003, 3, ""),
    (75, 3, 0x7FFFFFFFFFFFFFFF, 0xFFFFFFFFFFFFFFFF, 0x8000000000000000, "S"),
    (76, 0, 0xB4, 0, 0x04, "C"),
    (76, 0, 0x00, 0, 0x00, "Z"),
    (76, 0, 0x80, 0, 0x80, "CS"),
    (76, 1, 0x8800, 0, 0x0800, "C"),
    (76, 2, 0x80000000, 0, 0x80000000, "CS"),
    (76, 3, 0xFFFFFFFFFFFFFFFF, 0, 1, "C"),
    (77, 0, 0xB4, 0, 0xB0, "S"),
    (77, 0, 0x00, 0, 0x00, "CZ"),
    (77, 0, 0x40, 0, 0x00, "Z"),
    (77, 1, 0x8800, 0, 0x8000, "S"),
    (77, 2, 0, 0, 0, "CZ"),
    (77, 3, 3, 0, 2, ""),
    (78, 0, 0xB4, 0, 0x07, ""),
    (78, 0, 0x00, 0, 0xFF, "CS"),
    (78, 0, 0x80, 0, 0xFF, "S"),
    (78, 1, 0, 0, 0xFFFF, "CS"),
    (78, 2, 0, 0, 0xFFFFFFFF, "CS"),
    (78, 3, 0, 0, 0xFFFFFFFFFFFFFFFF, "CS"),
    (78, 3, 0x8000000000000000, 0, 0xFFFFFFFFFFFFFFFF, "S"),
)

# operation, w, b, the whole register c, a then
LAID = (
    (73, 0, 0x05, 0xB4, 0x24),
    (73, 0, 0xFF, 0xB4, 0xB4),
    (73, 1, 0x0003, 0x8001, 0x8001),
    (73, 2, 0x0000000F, 0xF0F0F0F0, 0x000000F0),
    (73, 3, 0xFFFFFFFFFFFFFFFF, 0, 0),
    (73, 3, 0x8000000000000001, 0xFFFFFFFFFFFFFFFF, 0x8000000000000001),
    (74, 0, 0x14, 0xB4, 0x03),
    (74, 0, 0xFF, 0xB4, 0x0F),
    (74, 1, 0x8000, 0x8001, 0x0002),
    (74, 2, 0x12345678, 0xF0F0F0F0, 0x00001357),
    (74, 3, 0x8000000000000001, 0xFFFFFFFFFFFFFFFF, 0x8000000000000001),
    (74, 3, 0xFFFFFFFFFFFFFFFF, 0, 0),
    (81, 0, 0x81, 1, 0x02),
    (81, 0, 0x81, 8, 0x81),
    (81, 0, 0x81, 0xFFF9, 0x02),
    (81, 1, 0x8001, 17, 0x0002),
    (81, 2, 0x80000001, 33, 0x00000002),
    (81, 3, 1, 127, 0x8000000000000000),
    (82, 0, 0x81, 1, 0x40),
    (82, 0, 0x81, 16, 0x81),
    (82, 1, 0x8001, 17, 0x4000),
    (82, 2, 0x80000001, 33, 0x40000000),
    (82, 3, 0x8000000000000000, 127, 1),
    (83, 0, 0x81, 1, 0xC0),
    (83, 0, 0x41, 9, 0x20),
    (83, 1, 0x8001, 15, 0xFFFF),
    (83, 2, 0x80000001, 32, 0x80000001),
    (83, 3, 0x8000000000000000, 63, 0xFFFFFFFFFFFFFFFF),
)


class OneBit(DeskCase):
    def test_the_bit_and_what_becomes_of_it(self):
        for w in range(4):
            k = 8 << w
            for place in (0, 1, k - 2, k - 1):
                old = (HIGH >> place) & 1
                one = 1 << place
                wanted = {62: HIGH, 63: HIGH | one, 64: HIGH & ~one, 65: HIGH ^ one}
                for op, value in wanted.items():
                    changed = {} if op == 62 else {0: value & 0xFFFFFFFF if w == 2 else value}
                    for before in (0, ALL):
                        after = (before & ~C) | old
                        for told in (place, place + k, place + 2 * k):
                            self.check(insn(op, w), registers(r0=HIGH, r1=told), before, changed, after)
                            self.check(insn(op, w, 1, z=told), registers(r0=HIGH), before, changed, after)
                        self.check(insn(op, w, 1, z=place - k), registers(r0=HIGH), before, changed, after)

    def test_src_in_a_itself(self):
        self.check(insn(63, 3, a=4, b=4), registers(r4=2), 0, {4: 6}, 0)
        self.check(insn(64, 3, a=4, b=4), registers(r4=3), 0, {4: 3}, 0)
        self.check(insn(65, 3, a=4, b=4), registers(r4=1), 0, {4: 3}, 0)


class Places(DeskCase):
    def test_lowest_and_highest_one(self):
        cases = ((0, 0xB4, 2, 7), (0, 0x01, 0, 0), (1, 0x0180, 7, 8), (2, 0x80000002, 1, 31),
                 (3, 0x8000000000000000, 63, 63), (3, 0xFFFFFFFFFFFFFFFF, 0, 63))
        for w, x, lowest, highest in cases:
            k = 8 << w
            for before in (0, ALL):
                regs = registers(r0=HIGH, r1=(HIGH >> k << k) | x)
                self.check(insn(66, w), regs, before, {0: put(w, lowest)}, before & ~Z)
                self.check(insn(67, w), regs, before, {0: put(w, highest)}, before & ~Z)
        self.check(insn(66, 2, 1, z=-8), registers(r0=HIGH), Z, {0: 3}, 0)
        self.check(insn(67, 2, 1, z=-8), registers(r0=HIGH), Z, {0: 31}, 0)

    def test_of_0_only_z_is_set(self):
        for op in (66, 67):
            for w in range(4):
                for before in (0, ALL):
                    regs = registers(r0=HIGH, r1=HIGH >> (8 << w) << (8 << w))
                    self.check(insn(op, w), regs, before, {}, before | Z)
                    self.check(insn(op, w, 1, z=0), regs, before, {}, before | Z)

    def test_counts(self):
        for op, w, x, count, after in COUNTS:
            k = 8 << w
            regs = registers(r0=HIGH, r1=(HIGH >> k << k) | x)
            self.check(insn(op, w), regs, 0, {0: put(w, count)}, word(after))
            self.check(insn(op, w), regs, ALL, {0: put(w, count)}, word(after) + D)
            z = x - (1 << k) if x >> (k - 1) else x
            if -(2**31) <= z < 2**31:
                self.check(insn(op, w, 1, z=z), regs, ALL, {0: put(w, count)}, word(after) + D)


class Results(DeskCase):
    def test_picked(self):
        for op, w, x, y, result, after in PICKED:
            k = 8 << w
            regs = registers(r0=HIGH, r1=(HIGH >> k << k) | x, r2=y)
            for i in (0, 1):
                self.check(insn(op, w, i, z=1), regs, 0, {0: put(w, result)}, word(after))
                self.check(insn(op, w, i, z=1), regs, ALL, {0: put(w, result)}, word(after) + D)

    def test_laid_tells_no_flags(self):
        for op, w, x, y, result in LAID:
            k = 8 << w
            regs = registers(r0=HIGH, r1=(HIGH >> k << k) | x, r2=y)
            for i in (0, 1):
                for flags in (0, ALL):
                    self.check(insn(op, w, i, z=1), regs, flags, {0: put(w, result)}, flags)

    def test_bytes_turned_round(self):
        regs = registers(r0=0x0123456789ABCDEF)
        wanted = (0x0123456789ABCDEF, 0x0123456789ABEFCD, 0xEFCDAB89, 0xEFCDAB8967452301)
        for w, value in enumerate(wanted):
            for i in (0, 1):
                for flags in (0, ALL):
                    self.check(insn(79, w, i), regs, flags, {0: value}, flags)

    def test_turned_right_by_z(self):
        cases = ((0, 0x81, 1, 0xC0), (0, 0x81, -1, 0x03), (0, 0x81, 8, 0x81), (0, 0x81, 33, 0xC0),
                 (1, 0x1234, 4, 0x4123), (1, 0x1234, 0, 0x1234), (2, 0x12345678, 36, 0x81234567),
                 (3, 1, 1, 0x8000000000000000), (3, 1, -63, 0x8000000000000000))
        for w, x, z, result in cases:
            k = 8 << w
            regs = registers(r0=HIGH, r1=(HIGH >> k << k) | x)
            for i in (0, 1):
                for flags in (0, ALL):
                    self.check(insn(80, w, i, z=z), regs, flags, {0: put(w, result)}, flags)

    def test_one_register_for_all(self):
        self.check(insn(75, 3, a=5, b=5, c=5), registers(r5=9), 0, {5: 0}, Z)
        self.check(insn(73, 3, a=5, b=5, c=5), registers(r5=0b110), 0, {5: 0b100}, 0)
        self.check(insn(74, 3, a=5, b=5, c=5), registers(r5=0b110), 0, {5: 0b011}, 0)
        self.check(insn(81, 3, a=5, b=5, c=5), registers(r5=2), 0, {5: 8}, 0)


if __name__ == "__main__":
    unittest.main()
