"""Operations 57 to 61."""

import unittest

from helpers import ALL, D, HIGH, DeskCase, insn, put, registers, word

# operation, w, a, src, c then, a then, flags then
PRODUCTS = (
    (57, 0, 0x10, 0x0F, 0x00, 0xF0, "PS"),
    (57, 0, 0x10, 0x10, 0x01, 0x00, "CPZO"),
    (57, 0, 0xFF, 0xFF, 0xFE, 0x01, "CO"),
    (57, 0, 0x00, 0xFF, 0x00, 0x00, "PZ"),
    (57, 1, 0xFFFF, 0xFFFF, 0xFFFE, 0x0001, "CO"),
    (57, 1, 0x0100, 0x0003, 0x0000, 0x0300, "P"),
    (57, 2, 0xFFFFFFFF, 0x00000002, 0x00000001, 0xFFFFFFFE, "CSO"),
    (57, 3, 0xFFFFFFFFFFFFFFFF, 0xFFFFFFFFFFFFFFFF, 0xFFFFFFFFFFFFFFFE, 1, "CO"),
    (58, 0, 0xFF, 0xFF, 0x00, 0x01, ""),
    (58, 0, 0x80, 0xFF, 0x00, 0x80, "CSO"),
    (58, 0, 0x80, 0x01, 0xFF, 0x80, "S"),
    (58, 0, 0x40, 0x02, 0x00, 0x80, "CSO"),
    (58, 0, 0x80, 0x80, 0x40, 0x00, "CPZO"),
    (58, 1, 0x7FFF, 0xFFFF, 0xFFFF, 0x8001, "S"),
    (58, 1, 0x8000, 0x0002, 0xFFFF, 0x0000, "CPZO"),
    (58, 2, 0xFFFFFFFE, 0x00000003, 0xFFFFFFFF, 0xFFFFFFFA, "PS"),
    (58, 3, 0x8000000000000000, 0xFFFFFFFFFFFFFFFF, 0, 0x8000000000000000, "CPSO"),
    (58, 3, 0xFFFFFFFFFFFFFFFF, 0xFFFFFFFFFFFFFFFF, 0, 1, ""),
)

# operation, w, c, a, src, the rest in c, the quotient in a
QUOTIENTS = (
    (60, 0, 0x00, 0x07, 0x02, 0x01, 0x03),
    (60, 0, 0x01, 0x00, 0x02, 0x00, 0x80),
    (60, 0, 0xFE, 0xFF, 0xFF, 0xFE, 0xFF),
    (60, 1, 0x0001, 0x0001, 0x0100, 0x0001, 0x0100),
    (60, 2, 0x00000001, 0x00000000, 0x80000000, 0, 2),
    (60, 3, 1, 0, 0xFFFFFFFFFFFFFFFF, 1, 1),
    (61, 0, 0xFF, 0xF9, 0x02, 0xFF, 0xFD),
    (61, 0, 0x00, 0x07, 0xFE, 0x01, 0xFD),
    (61, 0, 0xFF, 0xF9, 0xFE, 0xFF, 0x03),
    (61, 0, 0xFF, 0xFF, 0x01, 0x00, 0xFF),
    (61, 0, 0xFF, 0x80, 0x01, 0x00, 0x80),
    (61, 0, 0x00, 0x7F, 0x01, 0x00, 0x7F),
    (61, 0, 0x00, 0x80, 0xFF, 0x00, 0x80),
    (61, 1, 0xFFFF, 0x8000, 0x0001, 0x0000, 0x8000),
    (61, 2, 0xFFFFFFFF, 0xFFFFFFF9, 0x00000002, 0xFFFFFFFF, 0xFFFFFFFD),
    (61, 3, 0xFFFFFFFFFFFFFFFF, 0xFFFFFFFFFFFFFFF9, 2, 0xFFFFFFFFFFFFFFFF, 0xFFFFFFFFFFFFFFFD),
)

# operation, w, c, a, src
UNFIT = (
    (60, 0, 0x02, 0x00, 0x02),
    (60, 0, 0xFF, 0x00, 0xFF),
    (60, 1, 0x0001, 0x0000, 0x0001),
    (60, 2, 0x80000000, 0x00000000, 0x80000000),
    (60, 3, 5, 0, 5),
    (61, 0, 0x00, 0x80, 0x01),
    (61, 0, 0xFF, 0x80, 0xFF),
    (61, 0, 0xFF, 0x7F, 0x01),
    (61, 1, 0xFFFF, 0x8000, 0xFFFF),
    (61, 2, 0xFFFFFFFF, 0x80000000, 0xFFFFFFFF),
    (61, 3, 0xFFFFFFFFFFFFFFFF, 0x8000000000000000, 0xFFFFFFFFFFFFFFFF),
    (61, 3, 0x8000000000000000, 0, 1),
)


def as_z(w, value):
    """The z that says value at that width, or None."""
    k = 8 << w
    z = value - (1 << k) if value >> (k - 1) else value
    return z if -(2**31) <= z < 2**31 else None


class Products(DeskCase):
    def both_ways(self, op, w, src, regs, flags, changed, after):
        self.check(insn(op, w), regs, flags, changed, after)
        z = as_z(w, src)
        if z is not None:
            self.check(insn(op, w, 1, z=z), regs, flags, changed, after)

    def test_products_and_their_flags(self):
        for op, w, x, y, high, low, after in PRODUCTS:
            regs = registers(r0=put(w, x), r1=put(w, y), r2=HIGH)
            changed = {0: put(w, low), 2: put(w, high)}
            self.both_ways(op, w, y, regs, 0, changed, word(after))
            self.both_ways(op, w, y, regs, ALL, changed, word(after) + D)

    def test_product_of_d_tells_no_flags(self):
        for op, w, x, y, high, low, after in PRODUCTS:
            if op == 57:
                regs = registers(r0=HIGH, r1=put(w, y), r2=HIGH, r3=put(w, x))
                changed = {0: put(w, low), 2: put(w, high)}
                self.both_ways(59, w, y, regs, 0, changed, 0)
                self.both_ways(59, w, y, regs, ALL, changed, ALL)

    def test_factors_are_read_before_any_is_written(self):
        self.check(insn(57, 3, a=0, b=2, c=2), registers(r0=3, r2=5), 0, {0: 15, 2: 0}, word("P"))
        self.check(insn(57, 0, a=0, b=0, c=2), registers(r0=3, r2=5), 0, {0: 9, 2: 0}, word("P"))
        self.check(insn(59, 3, a=0, b=0, c=2, d=2), registers(r0=3, r2=5), 0, {0: 15, 2: 0}, 0)
        self.check(insn(60, 3, a=0, b=0, c=2), registers(r0=3, r2=1), 0, {0: 2**64 // 3 + 1, 2: 1}, 0)


class Quotients(DeskCase):
    def test_quotient_and_rest(self):
        for op, w, high, low, by, rest, quotient in QUOTIENTS:
            regs = registers(r0=put(w, low), r1=put(w, by), r2=put(w, high))
            for flags in (0, ALL):
                changed = {0: put(w, quotient), 2: put(w, rest)}
                self.check(insn(op, w), regs, flags, changed, flags)
                z = as_z(w, by)
                if z is not None:
                    self.check(insn(op, w, 1, z=z), regs, flags, changed, flags)

    def test_by_0_stops(self):
        for op in (60, 61):
            for w in range(4):
                k = 8 << w
                regs = registers(r0=HIGH, r1=HIGH >> k << k, r2=0)
                self.stops(insn(op, w), regs, 5)
                self.stops(insn(op, w, 1, z=0), regs, 5)
        self.stops(insn(60, 0, 1, z=0x100), registers(), 5)

    def test_what_does_not_fit_stops(self):
        for op, w, high, low, by in UNFIT:
            regs = registers(r0=put(w, low), r1=put(w, by), r2=put(w, high))
            self.stops(insn(op, w), regs, 5)
            z = as_z(w, by)
            if z is not None:
                self.stops(insn(op, w, 1, z=z), regs, 5)


class OneRegister(DeskCase):
    def test_a_and_c_alike_stop(self):
        for op in range(57, 62):
            for w in range(4):
                for i in (0, 1):
                    self.stops(insn(op, w, i, a=7, c=7, z=3), registers(r7=9, r1=3), 3)
                    self.stops(insn(op, w, i, a=7, c=7, z=0), registers(r7=9, r1=0), 3)


if __name__ == "__main__":
    unittest.main()
