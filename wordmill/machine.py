"""The machine that instructions run on, and its stack."""

from wordmill.words import cut


class Machine:
    """place is where the instruction stands, onward where it goes on, done how many were done."""

    def __init__(self, regs, place, flags, memory):
        self.regs = regs
        self.place = place
        self.onward = place
        self.flags = flags
        self.memory = memory
        self.done = 0

    def push(self, value):
        place = cut(self.regs[15] - 8, 64)
        self.memory.save(place, 8, value)
        self.regs[15] = place

    def pull(self):
        """The number that is popped."""
        value = self.memory.load(self.regs[15], 8)
        self.regs[15] = self.regs[15] + 8
        return value
