"""One instruction taken apart, over the registers and flags that it works on."""

from wordmill.stops import NoInstruction
from wordmill.words import cut, signed


class Step:
    """a, b, c and d are the registers' numbers; regs and flags are changed in place."""

    def __init__(self, insn, regs, flags):
        form = (insn >> 8) & 255
        if form > 7:
            raise NoInstruction()
        self.op = insn & 255
        self.k = 8 << (form & 3)
        self.with_z = form >> 2
        self.a = (insn >> 16) & 15
        self.c = (insn >> 20) & 15
        self.b = (insn >> 24) & 15
        self.d = (insn >> 28) & 15
        self.z = signed(insn >> 32, 32)
        self.regs = regs
        self.flags = flags

    def low(self, number):
        """A register's lowest k bits."""
        return cut(self.regs[number], self.k)

    def source(self):
        if self.with_z:
            return cut(self.z, self.k)
        return self.low(self.b)

    def put(self, number, value):
        self.put_low(number, value, self.k)

    def put_low(self, number, value, k):
        """Eight and sixteen bits leave the higher ones, 32 clear them."""
        low = cut(value, k)
        if k < 32:
            self.regs[number] = ((self.regs[number] >> k) << k) | low
        else:
            self.regs[number] = low

    def need_no_z(self):
        if self.with_z:
            raise NoInstruction()

    def need_two_registers(self):
        if self.a == self.c:
            raise NoInstruction()
