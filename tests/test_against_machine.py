"""run held against a second telling of the document, over many instructions and programs."""

import unittest

import machine_model
from helpers import WORD, any_digits, any_word, code_bytes, insn, row_bytes, steady
from wordmill import desk

CODE = 0x4000
OWN = [0, 4, 38, 39] + list(range(42, 47)) + list(range(84, 113))
ROWS = list(range(102, 111)) + [112]


def any_place(source):
    """A place that is often near the memory's ends, the code, or another such place."""
    near = source.choice((0, 0, 64, 0x1000, 0x1000, 0x1008, 0x1020, CODE, 65536, 65536, 65528, 2**64, 2**63))
    return (near + source.choice((0, 0, 8, -8, 16, -16, source.randrange(-40, 40)))) % 2**64


def any_regs(source):
    regs = [source.choice((any_place(source), any_place(source), any_word(source))) for _ in range(16)]
    regs[11] = source.choice((0, 1, 2, 5, 40, WORD, any_word(source)))
    for number in (12, 13, 14, 15):
        if source.randrange(4):
            regs[number] = (0x1000 + 8 * source.randrange(-12, 12)) % 2**64
    return regs


def any_insn(source, op):
    few = source.choice((2, 4, 16))
    fields = [source.randrange(few) for _ in range(4)]
    z = source.choice((0, 0, 8, -8, 1, 2, 3, source.randrange(-70, 70), source.randrange(-(2**31), 2**31)))
    number = insn(op, source.randrange(4), source.randrange(2), *fields, z)
    return number | 0x800 if source.randrange(60) == 0 else number


class AgainstMachine(unittest.TestCase):
    def same(self, steps, regs, begin, memory, part):
        wanted = machine_model.told(steps, regs, begin, memory, part)
        answer = desk.run([steps], regs, begin, memory, part)
        if answer != wanted:
            other = [(k, answer[k], wanted[k]) for k in range(min(len(answer), len(wanted))) if answer[k] != wanted[k]]
            code = bytes(memory[1 + CODE - memory[0]:][:24]).hex()
            self.fail(f"code {code} regs {[hex(r) for r in regs]} begin {begin}: at, is, wanted: {other[:12]}")

    def image(self, source, code):
        """Bytes from 0x0F00 on, the code among them."""
        kind = source.randrange(3)
        if kind == 0:
            data = [source.getrandbits(8) for _ in range(0x800)]
        elif kind == 1:
            data = row_bytes([any_digits(source) for _ in range(0x100)])
        else:
            data = [source.choice((0, 0, 5, 255)) for _ in range(0x800)]
        return [0x0F00] + data + [0] * (CODE - 0x0F00 - 0x800) + code_bytes(code)

    def test_each_operation_by_itself(self):
        source = steady(21)
        for op in OWN:
            for _ in range(150):
                memory = self.image(source, [any_insn(source, op)])
                self.same(1, any_regs(source), [CODE, source.getrandbits(32)], memory, [0, 65536])

    def test_rows_over_one_another(self):
        source = steady(22)
        for op in ROWS:
            for _ in range(100):
                n = source.choice((1, 2, 3, 5, 8, 9))
                regs = [0x1000 + source.choice((0, 8, 16, 3, -5, 24, 64, 100)) for _ in range(16)]
                fields = [source.randrange(4) for _ in range(4)]
                memory = self.image(source, [insn(op, 3, 0, *fields, n)])
                self.same(1, regs, [CODE, source.getrandbits(32)], memory, [0, 65536])

    def test_programs(self):
        source = steady(23)
        likely = list(range(1, 38)) + list(range(40, 42)) + list(range(47, 84))
        for _ in range(1500):
            ops = [source.choice((source.choice(likely), source.choice(OWN[1:]))) for _ in range(12)]
            memory = self.image(source, [any_insn(source, op) for op in ops])
            steps = source.choice((1, 12, 40))
            self.same(steps, any_regs(source), [CODE, source.getrandbits(32)], memory, [0x0F00, 0x3200])


if __name__ == "__main__":
    unittest.main()
