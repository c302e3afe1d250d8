"""Operations 1 to 3, 5 to 21, 31 to 37, 40 and 41."""

import unittest

from helpers import A, ALL, C, D, HIGH, O, P, S, Z, DeskCase, insn, put, registers, word

SEVEN = "CPAZSDO"

# operation, w, a, src, flags before, a then, flags then
SUMS = (
    (7, 0, 0x05, 0x03, SEVEN, 0x08, "D"),
    (7, 0, 0x0F, 0x01, "D", 0x10, "DA"),
    (7, 0, 0xFF, 0x01, "S", 0x00, "CPAZ"),
    (7, 0, 0x7F, 0x01, "C", 0x80, "ASO"),
    (7, 0, 0x80, 0x80, "", 0x00, "CPZO"),
    (7, 1, 0x00FF, 0x0001, "", 0x0100, "PA"),
    (7, 1, 0xFFFF, 0x0001, "", 0x0000, "CPAZ"),
    (7, 1, 0x7FFF, 0x7FFF, "", 0xFFFE, "ASO"),
    (7, 2, 0x80000000, 0xFFFFFFFF, "", 0x7FFFFFFF, "CPO"),
    (7, 3, 0x7FFFFFFFFFFFFFFF, 1, "", 0x8000000000000000, "PASO"),
    (7, 3, 0xFFFFFFFFFFFFFFFF, 0xFFFFFFFFFFFFFFFF, "", 0xFFFFFFFFFFFFFFFE, "CAS"),
    (8, 0, 0x05, 0x03, "", 0x08, ""),
    (8, 0, 0x05, 0x03, "C", 0x09, "P"),
    (8, 0, 0xFF, 0x00, "C", 0x00, "CPAZ"),
    (8, 0, 0xFF, 0xFF, "C", 0xFF, "CPAS"),
    (8, 0, 0x7F, 0x7F, "C", 0xFF, "PASO"),
    (8, 0, 0x80, 0xFF, "C", 0x80, "CAS"),
    (8, 3, 0x7FFFFFFFFFFFFFFF, 0, "CD", 0x8000000000000000, "DPASO"),
    (9, 0, 0x05, 0x03, SEVEN, 0x02, "D"),
    (9, 0, 0x03, 0x05, "", 0xFE, "CAS"),
    (9, 0, 0x10, 0x01, "C", 0x0F, "PA"),
    (9, 0, 0x80, 0x01, "", 0x7F, "AO"),
    (9, 0, 0x7F, 0xFF, "", 0x80, "CSO"),
    (9, 1, 0x1234, 0x1234, "", 0, "PZ"),
    (9, 2, 0, 0x80000000, "", 0x80000000, "CPSO"),
    (9, 3, 0, 1, "", 0xFFFFFFFFFFFFFFFF, "CPAS"),
    (10, 0, 0x05, 0x03, "", 0x02, ""),
    (10, 0, 0x05, 0x03, "C", 0x01, ""),
    (10, 0, 0x00, 0xFF, "C", 0x00, "CPAZ"),
    (10, 0, 0x80, 0x00, "C", 0x7F, "AO"),
    (10, 0, 0x7F, 0xFF, "C", 0x7F, "CA"),
    (10, 3, 0, 0, "C", 0xFFFFFFFFFFFFFFFF, "CPAS"),
    (12, 0, 0xF3, 0x35, SEVEN, 0x31, "D"),
    (12, 2, 0xF0000000, 0x0FFFFFFF, "CAO", 0, "PZ"),
    (13, 0, 0x81, 0x12, SEVEN, 0x93, "DPS"),
    (13, 3, 0, 0, "CAOS", 0, "PZ"),
    (14, 1, 0x8001, 0x8001, SEVEN, 0, "DPZ"),
    (14, 1, 0x8001, 0x0101, "", 0x8100, "PS"),
)


class Moves(DeskCase):
    def test_move_at_each_width(self):
        regs = registers(r0=HIGH, r1=0x1122334455667788)
        wanted = (0xAAAAAAAAAAAAAA88, 0xAAAAAAAAAAAA7788, 0x55667788, 0x1122334455667788)
        for w, value in enumerate(wanted):
            self.check(insn(1, w), regs, ALL, {0: value}, ALL)

    def test_move_of_z_at_each_width(self):
        wanted = (0xAAAAAAAAAAAAAAFE, 0xAAAAAAAAAAAAFFFE, 0xFFFFFFFE, 0xFFFFFFFFFFFFFFFE)
        for w, value in enumerate(wanted):
            self.check(insn(1, w, 1, z=-2), registers(r0=HIGH), 0, {0: value}, 0)

    def test_place_is_64_bits_whatever_w_and_i_are(self):
        for w in range(4):
            for i in (0, 1):
                regs = registers(r0=HIGH, r1=0xFFFFFFFFFFFFFFFF)
                self.check(insn(2, w, i, z=3), regs, ALL, {0: 2}, ALL)
                regs = registers(r0=HIGH, r1=1)
                self.check(insn(2, w, i, z=-2), regs, 0, {0: 0xFFFFFFFFFFFFFFFF}, 0)

    def test_swap_at_each_width(self):
        x, y = 0x1111222233334444, 0x5555666677778888
        wanted = (
            (0x1111222233334488, 0x5555666677778844),
            (0x1111222233338888, 0x5555666677774444),
            (0x77778888, 0x33334444),
            (y, x),
        )
        for w, (first, other) in enumerate(wanted):
            self.check(insn(3, w), registers(r0=x, r1=y), ALL, {0: first, 1: other}, ALL)

    def test_swap_of_one_register(self):
        for w, value in enumerate((HIGH, HIGH, HIGH & 0xFFFFFFFF, HIGH)):
            self.check(insn(3, w, a=5, b=5), registers(r5=HIGH), 0, {5: value}, 0)

    def test_swap_with_z_stops(self):
        for w in range(4):
            self.stops(insn(3, w, 1), registers(), 3)

    def test_widening(self):
        source = 0x80F0F0F0F0F0F0F0
        signed = (0xFFFFFFFFFFFFFFF0, 0xFFFFFFFFFFFFF0F0, 0xFFFFFFFFF0F0F0F0, source)
        plain = (0xF0, 0xF0F0, 0xF0F0F0F0, source)
        for w in range(4):
            regs = registers(r0=HIGH, r1=source)
            self.check(insn(5, w), regs, ALL, {0: signed[w]}, ALL)
            self.check(insn(6, w), regs, ALL, {0: plain[w]}, ALL)
        self.check(insn(5, 0), registers(r1=0xFF7F), 0, {0: 0x7F}, 0)

    def test_widening_z(self):
        plain = (0x80, 0xFF80, 0xFFFFFF80, 0xFFFFFFFFFFFFFF80)
        for w in range(4):
            self.check(insn(5, w, 1, z=-128), registers(), 0, {0: 0xFFFFFFFFFFFFFF80}, 0)
            self.check(insn(6, w, 1, z=-128), registers(), 0, {0: plain[w]}, 0)
        self.check(insn(5, 0, 1, z=0x180), registers(), 0, {0: 0xFFFFFFFFFFFFFF80}, 0)


class Sums(DeskCase):
    def both_ways(self, op, w, x, y, before, changed, after):
        """src by register b and, where 32 bits can say it, by z."""
        regs = registers(r0=put(w, x), r1=put(w, y))
        self.check(insn(op, w), regs, word(before), changed, word(after))
        k = 8 << w
        z = y - (1 << k) if y >> (k - 1) else y
        if -(2**31) <= z < 2**31:
            self.check(insn(op, w, 1, z=z), regs, word(before), changed, word(after))

    def test_sums_differences_and_bits(self):
        for op, w, x, y, before, result, after in SUMS:
            self.both_ways(op, w, x, y, before, {0: put(w, result)}, after)

    def test_flags_alone(self):
        for op, w, x, y, before, result, after in SUMS:
            if op in (9, 12):
                self.both_ways({9: 11, 12: 15}[op], w, x, y, before, {}, after)

    def test_flags_alone_leave_a_register_of_32_bits(self):
        self.check(insn(11, 2, b=0), registers(r0=HIGH), 0, {}, P + Z)
        self.check(insn(15, 2, b=0), registers(r0=HIGH), 0, {}, P + S)

    def test_32_bits_clear_the_higher(self):
        regs = registers(r0=0xFFFFFFFF00000001, r1=0xFFFFFFFF00000001)
        self.check(insn(7, 2), regs, 0, {0: 2}, 0)

    def test_negation(self):
        cases = ((0, 0x01, 0xFF, "CPAS"), (0, 0, 0, "PZ"), (0, 0x80, 0x80, "CSO"), (0, 0x10, 0xF0, "CPS"),
                 (1, 0x8000, 0x8000, "CPSO"), (2, 1, 0xFFFFFFFF, "CPAS"), (3, 2, 0xFFFFFFFFFFFFFFFE, "CAS"))
        for w, x, result, after in cases:
            for i in (0, 1):
                regs = registers(r0=put(w, x))
                self.check(insn(16, w, i, z=9), regs, ALL, {0: put(w, result)}, word(after) + D)

    def test_bits_turned(self):
        wanted = (0xAAAAAAAAAAAAAA55, 0xAAAAAAAAAAAA5555, 0x55555555, 0x5555555555555555)
        for w, value in enumerate(wanted):
            for i in (0, 1):
                self.check(insn(17, w, i), registers(r0=HIGH), ALL, {0: value}, ALL)
                self.check(insn(17, w, i), registers(r0=HIGH), 0, {0: value}, 0)

    def test_one_more_and_one_less_keep_carry(self):
        cases = (
            (18, 0, 0xFF, 0x00, "PAZ"), (18, 0, 0x7F, 0x80, "ASO"), (18, 1, 0xFFFF, 0, "PAZ"),
            (18, 2, 0xFFFFFFFF, 0, "PAZ"), (18, 3, 0x7FFFFFFFFFFFFFFF, 0x8000000000000000, "PASO"),
            (18, 3, 4, 5, "P"), (19, 0, 0x00, 0xFF, "PAS"), (19, 0, 0x80, 0x7F, "AO"),
            (19, 1, 1, 0, "PZ"), (19, 2, 0x80000000, 0x7FFFFFFF, "PAO"), (19, 3, 0, 0xFFFFFFFFFFFFFFFF, "PAS"),
        )
        for op, w, x, result, after in cases:
            for carry in (0, C):
                for i in (0, 1):
                    before = (ALL - C) + carry
                    regs = registers(r0=put(w, x))
                    self.check(insn(op, w, i, z=7), regs, before, {0: put(w, result)}, word(after) + D + carry)

    def test_swap_and_add(self):
        regs = registers(r0=0x11111111111111FF, r1=0x2222222222222203)
        wanted = (
            (0x1111111111111102, 0x22222222222222FF, "CA"),
            (0x1111111111113402, 0x22222222222211FF, "A"),
            (0x33333402, 0x111111FF, "A"),
            (0x3333333333333402, 0x11111111111111FF, "A"),
        )
        for w, (first, other, after) in enumerate(wanted):
            self.check(insn(20, w), regs, 0, {0: first, 1: other}, word(after))

    def test_swap_and_add_of_one_register_is_the_sum(self):
        regs = registers(r4=0x8888888888888881)
        wanted = (0x8888888888888802, 0x8888888888881102, 0x11111102, 0x1111111111111102)
        for w, value in enumerate(wanted):
            self.check(insn(20, w, a=4, b=4), regs, 0, {4: value}, C + O)

    def test_swap_and_add_with_z_stops(self):
        for w in range(4):
            self.stops(insn(20, w, 1), registers(), 3)

    def test_compare_and_swap_alike(self):
        regs = registers(r0=0x55555555555555AA, r1=0x1234567812345678, r2=0x55555555555555AA)
        wanted = (0x5555555555555578, 0x5555555555555678, 0x12345678, 0x1234567812345678)
        for w, value in enumerate(wanted):
            self.check(insn(21, w), regs, ALL, {0: value}, D + P + Z)
        wanted = (0x55555555555555FF, 0x555555555555FFFF, 0xFFFFFFFF, 0xFFFFFFFFFFFFFFFF)
        for w, value in enumerate(wanted):
            self.check(insn(21, w, 1, z=-1), regs, 0, {0: value}, P + Z)

    def test_compare_and_swap_unlike(self):
        regs = registers(r0=0x7777777777777702, r1=9, r2=0x8888888888888801)
        wanted = (
            (0x8888888888888802, "CPAS"), (0x8888888888887702, "PAO"),
            (0x77777702, "PAO"), (0x7777777777777702, "PAO"),
        )
        for w, (value, after) in enumerate(wanted):
            for i in (0, 1):
                self.check(insn(21, w, i), regs, 0, {2: value}, word(after))

    def test_compare_and_swap_of_one_register(self):
        regs = registers(r0=HIGH, r1=3)
        self.check(insn(21, 3, c=0), regs, 0, {0: 3}, P + Z)
        self.check(insn(21, 2, c=0, b=0), regs, 0, {0: HIGH & 0xFFFFFFFF}, P + Z)


class Flags(DeskCase):
    def test_carry_and_direction(self):
        for form in range(8):
            for before in (0, ALL, C, D, ALL - C, ALL - D):
                wanted = {31: before & ~C, 32: before | C, 33: before ^ C, 34: before & ~D, 35: before | D}
                for op, after in wanted.items():
                    self.check(insn(op, form % 4, form // 4), registers(), before, {}, after)

    def test_flags_into_a_byte(self):
        cases = ((0, 0x02), (ALL, 0xD7), (C, 0x03), (P, 0x06), (A, 0x12), (Z, 0x42), (S, 0x82), (D, 2), (O, 2))
        for w in range(4):
            for before, byte in cases:
                for high in (0xAAAAAAAAAAAAAA00, 0x5555555555555500):
                    regs = registers(r0=high + 0xCC)
                    self.check(insn(36, w, w % 2), regs, before, {0: high + byte}, before)

    def test_flags_from_a_byte(self):
        for w in range(4):
            for byte, after in ((0xFF, C + P + A + Z + S), (0, 0), (0x2A, 0), (1, C), (4, P), (16, A), (64, Z), (128, S)):
                for kept in (0, D, O, D + O):
                    regs = registers(r0=0xFFFFFFFFFFFFFF00 + byte)
                    self.check(insn(37, w, w % 2), regs, kept, {}, after + kept)
                    self.check(insn(37, w), regs, ALL - D - O + kept, {}, after + kept)


# the flags with which each condition holds, over O, C, Z, S and P
CONDITIONS = (
    lambda o, c, z, s, p: o,
    lambda o, c, z, s, p: not o,
    lambda o, c, z, s, p: c,
    lambda o, c, z, s, p: not c,
    lambda o, c, z, s, p: z,
    lambda o, c, z, s, p: not z,
    lambda o, c, z, s, p: c or z,
    lambda o, c, z, s, p: not c and not z,
    lambda o, c, z, s, p: s,
    lambda o, c, z, s, p: not s,
    lambda o, c, z, s, p: p,
    lambda o, c, z, s, p: not p,
    lambda o, c, z, s, p: s != o,
    lambda o, c, z, s, p: s == o,
    lambda o, c, z, s, p: z or s != o,
    lambda o, c, z, s, p: not z and s == o,
)


class Conditions(DeskCase):
    def each(self):
        for flags in range(4096):
            if flags & ~ALL == 0:
                bits = [flags & one != 0 for one in (O, C, Z, S, P)]
                for d, holds in enumerate(CONDITIONS):
                    yield d, flags, bool(holds(*bits))

    def test_the_byte_tells_the_condition(self):
        for d, flags, holds in self.each():
            for high in (0xAAAAAAAAAAAAAA00, 0x5555555555555500):
                regs = registers(r0=high + 0xCC)
                self.check(insn(40, d % 4, d // 4 % 2, d=d), regs, flags, {0: high + holds}, flags)

    def test_moves_only_if_it_holds(self):
        for d, flags, holds in self.each():
            changed = {0: 0xFFFFFFF1} if holds else {}
            regs = registers(r0=HIGH, r1=0xBBBBBBBBFFFFFFF1)
            self.check(insn(41, 2, 0, d=d), regs, flags, changed, flags)
            self.check(insn(41, 2, 1, d=d, z=-15), regs, flags, changed, flags)

    def test_moves_at_each_width(self):
        wanted = (0xAAAAAAAAAAAAAA88, 0xAAAAAAAAAAAA7788, 0x55667788, 0x1122334455667788)
        for w, value in enumerate(wanted):
            regs = registers(r0=HIGH, r1=0x1122334455667788)
            self.check(insn(41, w, d=4), regs, Z, {0: value}, Z)
            self.check(insn(41, w, d=5), regs, Z, {}, Z)


if __name__ == "__main__":
    unittest.main()
