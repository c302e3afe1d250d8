"""A second telling of run: every instruction works on a copy, which is dropped where it stops."""

import long_model
from helpers import ALL, Z, insn
from model import Model, Stop


class MachineModel:
    def __init__(self, regs, place, flags, cells):
        self.regs = list(regs)
        self.place = place
        self.flags = flags & ALL
        self.cells = bytearray(cells)

    def copy(self):
        return MachineModel(self.regs, self.place, self.flags, self.cells)

    def become(self, other):
        self.regs, self.place, self.flags, self.cells = other.regs, other.place, other.flags, other.cells

    # bytes and words

    def bytes_at(self, place, size):
        place %= 2**64
        if not 0 <= place <= place + size <= 65536:
            raise Stop(4)
        return self.cells[place:place + size]

    def get(self, place, size):
        return int.from_bytes(self.bytes_at(place, size), "little")

    def set(self, place, size, value):
        self.bytes_at(place, size)
        place %= 2**64
        self.cells[place:place + size] = (value % 256**size).to_bytes(size, "little")

    def get_row(self, number, n):
        text = self.bytes_at(self.regs[number], 8 * n)
        return [int.from_bytes(text[k:k + 8], "little") for k in range(0, 8 * n, 8)]

    def set_row(self, number, row):
        for k, value in enumerate(row):
            self.set(self.regs[number] + 8 * k, 8, value)

    def push(self, value):
        self.set(self.regs[15] - 8, 8, value)
        self.regs[15] = (self.regs[15] - 8) % 2**64

    def pop(self):
        value = self.get(self.regs[15], 8)
        self.regs[15] = (self.regs[15] + 8) % 2**64
        return value

    # instructions

    def step(self):
        """Why it stopped, or 0."""
        try:
            trial = self.copy()
            trial.one(trial.get(trial.place, 8))
        except Stop as stop:
            return stop.args[0]
        self.become(trial)
        return 0

    def one(self, code):
        self.m = Model(code, self.regs, self.flags)
        self.next = self.place + 8
        op = self.m.op
        for ops, work in (
            ((4, 84, 85, 86, 87, 111), self.memory), ((38, 39, 88, 89), self.stack),
            ((42, 43, 44, 45, 46, 92, 93), self.jumps), ((90, 91, 94), self.calls), ((95, 96), self.frames),
            (tuple(range(102, 111)) + (112,), self.rows),
        ):
            if op in ops:
                work(self.m, op)
                self.place = self.next % 2**64
                return
        if op == 0:
            raise Stop(1)
        self.m.go()
        self.regs, self.flags = self.m.regs, self.m.answer()[19]
        self.place = self.next

    def put(self, number, value, k):
        kept = self.regs[number] >> k << k if k < 32 else 0
        self.regs[number] = kept + value

    def memory(self, m, op):
        at, size = (self.regs[m.b] + m.z) % 2**64, m.k // 8
        if op == 4:
            self.put(m.a, self.get(self.regs[m.b] + self.regs[m.a] % 256, 1), 8)
        elif op in (84, 86):
            order = "little" if op == 84 else "big"
            self.put(m.a, int.from_bytes(self.bytes_at(at, size), order), m.k)
        elif op in (85, 87):
            text = (self.regs[m.a] % 256**size).to_bytes(size, "little" if op == 85 else "big")
            self.set(at, size, int.from_bytes(text, "little"))
        else:
            there = self.get(at, 16)
            if at % 16:
                raise Stop(4)
            pairs = [self.regs[one] + 2**64 * self.regs[(one + 1) % 16] for one in (m.c, m.d)]
            self.flags = self.flags & ~Z
            if there == pairs[0]:
                self.set(at, 16, pairs[1])
                self.flags |= Z
            else:
                self.regs[m.c], self.regs[(m.c + 1) % 16] = there % 2**64, there // 2**64

    def stack(self, m, op):
        if op == 38:
            self.push(self.flags + 2)
        elif op == 39:
            self.flags = self.pop() & ALL
        elif op == 88:
            self.push(m.z if m.i else self.regs[m.b])
        else:
            self.regs[m.a] = self.pop()

    def jumps(self, m, op):
        if op == 42:
            goes = m.condition()
        elif op == 43:
            goes = self.regs[m.a] % 2**m.k == 0
        elif op in (44, 45, 46):
            self.regs[m.a] = (self.regs[m.a] - 1) % 2**64
            goes = self.regs[m.a] != 0 and {44: True, 45: self.flags & Z, 46: not self.flags & Z}[op]
        else:
            goes = True
        if op == 93:
            self.next = self.regs[m.a]
        elif goes:
            self.next += m.z

    def calls(self, m, op):
        if op == 94:
            self.next = self.pop()
            self.regs[15] = (self.regs[15] + m.z % 65536) % 2**64
            return
        place = self.next + m.z if op == 90 else self.regs[m.a]
        self.push(self.next)
        self.next = place

    def frames(self, m, op):
        if op == 96:
            self.regs[15] = self.regs[14]
            self.regs[14] = self.pop()
            return
        led = self.regs[14]
        self.push(led)
        frame = self.regs[15]
        if m.d:
            for k in range(1, m.d):
                self.push(self.get(led - 8 * k, 8))
            self.push(frame)
        self.regs[14] = frame
        self.regs[15] = (self.regs[15] - m.z % 65536) % 2**64

    # strings: each turn is an instruction of its own, and may be dropped alone

    def string(self, m):
        if m.d > 2 or (m.d == 2 and m.op < 100):
            return 3
        while m.d == 0 or self.regs[11]:
            trial = self.copy()
            try:
                trial.turn(m)
            except Stop as stop:
                return stop.args[0]
            self.become(trial)
            if m.d == 0:
                break
            self.regs[11] -= 1
            if m.op >= 100 and bool(self.flags & Z) != (m.d == 1):
                break
        self.place += 8
        return 0

    def turn(self, m):
        size = m.k // 8
        used = {97: (12,), 98: (13,), 99: (12, 13), 100: (13,), 101: (12, 13)}[m.op]
        there = {number: self.get(self.regs[number], size) for number in used}
        if m.op == 97:
            self.put(0, there[12], m.k)
        elif m.op in (98, 99):
            self.set(self.regs[13], size, self.regs[0] if m.op == 98 else there[12])
        else:
            first = self.regs[0] if m.op == 100 else there[12]
            less = Model(insn(11, m.w, a=0, b=1), [first, there[13]] + [0] * 14, self.flags)
            less.go()
            self.flags = less.answer()[19]
        for number in used:
            self.regs[number] = (self.regs[number] + (-size if m.f["D"] else size)) % 2**64

    def rows(self, m, op):
        n = 8 if op == 109 else m.z
        if not 1 <= n <= 256:
            raise Stop(3)
        by, more = self.regs[m.c], self.regs[m.d]
        z = self.get_row(m.a, 2 * n if op == 106 else n)
        x = self.get_row(m.b, n) if op not in (107, 108) else []
        y = self.get_row(m.c, n) if op in (104, 106, 109) else []
        high = self.get_row(m.d, n) if op == 109 else []
        told = {
            102: lambda: long_model.add(z, x, self.flags), 103: lambda: long_model.sub(z, x, self.flags),
            104: lambda: long_model.two(z, y, x, self.flags), 105: lambda: long_model.more(z, x, by, more),
            106: lambda: long_model.product(y, x), 107: lambda: long_model.left(z, by % 64, more),
            108: lambda: long_model.right(z, by % 64, more), 109: lambda: long_model.digits(z, high, x, y),
            110: lambda: long_model.order(z, x, self.flags), 112: lambda: long_model.decimal(z, x, self.flags),
        }[op]()
        if told is None:
            raise Stop(6)
        self.set_row(m.a, told[0])
        self.set_row(m.d if op == 109 else m.c, told[1])
        if op in (105, 107, 108):
            self.regs[m.d] = told[2]
        elif op not in (106, 109):
            self.flags = told[2]

    def go(self, steps):
        """How many were done and why it ended."""
        for done in range(steps):
            why = self.next_one()
            if why:
                return done, why
        return steps, 0

    def next_one(self):
        try:
            m = Model(self.get(self.place, 8), self.regs, self.flags)
        except Stop as stop:
            return stop.args[0]
        return self.string(m) if 97 <= m.op <= 101 else self.step()


def told(steps, regs, begin, memory, part):
    """What run has to answer."""
    cells = bytearray(65536)
    cells[memory[0]:memory[0] + len(memory) - 1] = bytes(memory[1:])
    machine = MachineModel(regs, begin[0], begin[1], cells)
    done, why = machine.go(steps)
    shown = list(machine.cells[part[0]:part[0] + part[1]])
    return [done, 1, why, 16] + machine.regs + [2, machine.place, machine.flags, part[1]] + shown
