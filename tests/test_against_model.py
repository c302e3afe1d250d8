"""do held against a second telling of the document, over many instructions."""

import unittest

import model
from helpers import DONE, WIDTHS, any_word, edges, insn, registers, steady
from wordmill import desk


class AgainstModel(unittest.TestCase):
    def same(self, number, regs, flags):
        wanted = model.told(number, regs, flags)
        answer = desk.do([number], regs, [flags])
        if answer != wanted:
            self.fail(f"insn {number:#x} regs {[hex(r) for r in regs]} flags {flags}: {answer}, not {wanted}")

    def test_each_operation_at_edges(self):
        source = steady(1)
        for op in DONE:
            for w in WIDTHS:
                k = 8 << w
                for x in edges(k):
                    for y in edges(k):
                        high = source.getrandbits(64) >> k << k
                        regs = registers(r0=x | high, r1=y | high, r2=source.choice((x, y, 0, 3)))
                        z = y - (1 << k) if y >> (k - 1) else y
                        z = max(-(2**31), min(z, 2**31 - 1))
                        flags = source.getrandbits(32)
                        self.same(insn(op, w, 0, z=z), regs, flags)
                        self.same(insn(op, w, 1, z=z), regs, flags)

    def test_each_operation_on_any_registers(self):
        source = steady(2)
        for op in DONE:
            for _ in range(1500):
                few = source.choice((2, 4, 16))
                fields = [source.randrange(few) for _ in range(4)]
                z = source.choice((source.randrange(-70, 70), source.randrange(-(2**31), 2**31)))
                number = insn(op, source.randrange(4), source.randrange(2), *fields, z)
                regs = [any_word(source) for _ in range(16)]
                self.same(number, regs, source.getrandbits(32))

    def test_shifts_by_every_number(self):
        source = steady(3)
        for op in range(22, 31):
            for w in WIDTHS:
                for n in range(-1, 67):
                    x, y = any_word(source), any_word(source)
                    for flags in (0, 1, 0xFFFFFFFF):
                        self.same(insn(op, w, 1, z=n), registers(r0=x, r1=y), flags)
                        regs = registers(r0=x, r1=n % 2**64, r2=n % 2**64)
                        self.same(insn(op, w, 0), regs, flags)

    def test_every_byte_by_every_byte(self):
        for op in (7, 8, 9, 10, 57, 58):
            for x in range(256):
                for y in range(0, 256, 5):
                    self.same(insn(op, 0), registers(r0=x, r1=y), (x ^ y) & 1)

    def test_adjusting_every_byte(self):
        for op in (47, 48, 49, 50):
            for x in range(0x300):
                for flags in (0, 1, 16, 17, 0xFFE, 0xFFF):
                    self.same(insn(op, x % 4), registers(r0=x + 0xFFFFFFFFFFFF0000 * (x % 2)), flags)

    def test_divisions_near_what_fits(self):
        source = steady(4)
        for op in (60, 61):
            for w in WIDTHS:
                k = 8 << w
                for _ in range(1500):
                    by = source.choice(edges(k) + [source.getrandbits(k)])
                    quotient = source.choice([-2, -1, 0, 1]) + source.choice((1 << k, 1 << (k - 1), -(1 << (k - 1))))
                    signed_by = by - (1 << k) if op == 61 and by >> (k - 1) else by
                    whole = quotient * signed_by + source.choice((-1, 0, 1, by // 2, by - 1))
                    regs = registers(r0=whole % (1 << k), r1=by, r2=(whole >> k) % (1 << k))
                    self.same(insn(op, w), regs, source.getrandbits(12))

    def test_every_first_and_second_byte(self):
        for op in range(256):
            for form in range(256):
                number = insn(op, 0, 0, z=5) | (form << 8)
                self.same(number, registers(), 0xFFF)


if __name__ == "__main__":
    unittest.main()
