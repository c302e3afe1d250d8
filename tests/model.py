"""A second, slow telling of the instructions, bit by bit, to hold do against."""


class Stop(Exception):
    pass


def bits_of(value, k):
    return [(value >> place) & 1 for place in range(k)]


def number(bits):
    return sum(bit << place for place, bit in enumerate(bits))


def ripple(x, y, carry):
    """Sum of two lists of bits, and the carry out of each place."""
    result, carries = [], []
    for one, other in zip(x, y):
        count = one + other + carry
        carry = count // 2
        result.append(count % 2)
        carries.append(carry)
    return result, carries


class Model:
    def __init__(self, insn, regs, flags):
        eight = insn.to_bytes(8, "little")
        self.op = eight[0]
        if eight[1] > 7:
            raise Stop(3)
        self.w, self.i = eight[1] % 4, eight[1] // 4
        self.k = 8 * 2**self.w
        self.a, self.c = eight[2] % 16, eight[2] // 16
        self.b, self.d = eight[3] % 16, eight[3] // 16
        self.z = int.from_bytes(eight[4:], "little", signed=True)
        self.regs = list(regs)
        self.f = {
            name: (flags // size) % 2
            for name, size in (("C", 1), ("P", 4), ("A", 16), ("Z", 64), ("S", 128), ("D", 1024), ("O", 2048))
        }

    def answer(self):
        sizes = {"C": 1, "P": 4, "A": 16, "Z": 64, "S": 128, "D": 1024, "O": 2048}
        return [0, 16] + self.regs + [1, sum(sizes[name] for name in sizes if self.f[name])]

    # reading and writing

    def get(self, place):
        return bits_of(self.regs[place], self.k)

    def src(self):
        return bits_of(self.z, self.k) if self.i else self.get(self.b)

    def put(self, place, bits):
        old = bits_of(self.regs[place], 64)
        if len(bits) in (8, 16):
            bits = bits + old[len(bits):]
        self.regs[place] = number(bits)

    def tell(self, names, values=None):
        for place, name in enumerate(names):
            self.f[name] = int(values[place]) if values is not None else 0

    def szp(self, bits):
        self.tell("SZP", (bits[-1], not any(bits), sum(bits[:8]) % 2 == 0))

    # sums

    def sum(self, x, y, carry):
        result, carries = ripple(x, y, carry)
        self.szp(result)
        self.tell("CAO", (carries[-1], carries[3], carries[-1] != carries[-2]))
        return result

    def difference(self, x, y, borrow):
        result, carries = ripple(x, [1 - bit for bit in y], 1 - borrow)
        self.szp(result)
        self.tell("CAO", (not carries[-1], not carries[3], carries[-1] != carries[-2]))
        return result

    def one(self):
        return bits_of(1, self.k)

    def sums(self):
        a, src, op = self.get(self.a), self.src(), self.op
        if op in (3, 20) and self.i:
            raise Stop(3)
        if op == 1:
            self.put(self.a, src)
        elif op == 2:
            self.put(self.a, bits_of(self.regs[self.b] + self.z, 64))
        elif op == 3:
            other = self.get(self.b)
            self.put(self.b, a)
            self.put(self.a, other)
        elif op == 5:
            self.put(self.a, src + [src[-1]] * (64 - self.k))
        elif op == 6:
            self.put(self.a, src + [0] * (64 - self.k))
        elif op in (7, 8):
            self.put(self.a, self.sum(a, src, self.f["C"] if op == 8 else 0))
        elif op in (9, 10):
            self.put(self.a, self.difference(a, src, self.f["C"] if op == 10 else 0))
        elif op == 11:
            self.difference(a, src, 0)
        elif op in (12, 13, 14, 15):
            least = {12: (2, 3), 13: (1, 3), 14: (1, 2), 15: (2, 3)}[op]
            result = [int(least[0] <= x + y < least[1]) for x, y in zip(a, src)]
            self.szp(result)
            self.tell("COA")
            if op != 15:
                self.put(self.a, result)
        elif op == 16:
            self.put(self.a, self.difference([0] * self.k, a, 0))
        elif op == 17:
            self.put(self.a, [1 - bit for bit in a])
        elif op in (18, 19):
            kept = self.f["C"]
            self.put(self.a, (self.sum if op == 18 else self.difference)(a, self.one(), 0))
            self.f["C"] = kept
        elif op == 20:
            result = self.sum(a, self.get(self.b), 0)
            self.put(self.b, a)
            self.put(self.a, result)
        elif op == 21:
            self.difference(self.get(self.c), a, 0)
            if self.get(self.c) == a:
                self.put(self.a, src)
            else:
                self.put(self.c, a)

    def condition(self):
        f = self.f
        told = {
            0: f["O"] == 1,
            2: f["C"] == 1,
            4: f["Z"] == 1,
            6: f["C"] + f["Z"] > 0,
            8: f["S"] == 1,
            10: f["P"] == 1,
            12: f["S"] + f["O"] == 1,
            14: f["S"] + f["O"] == 1 or f["Z"] == 1,
        }
        if self.d % 2:
            return not told[self.d - 1]
        return told[self.d]

    def marks(self):
        f, op = self.f, self.op
        low = bits_of(self.regs[self.a], 8)
        if op == 33:
            f["C"] = 1 - f["C"]
        elif op in (31, 32, 34, 35):
            f["C" if op < 34 else "D"] = {31: 0, 32: 1, 34: 0, 35: 1}[op]
        elif op == 36:
            self.put(self.a, [f["C"], 1, f["P"], 0, f["A"], 0, f["Z"], f["S"]])
        elif op == 37:
            f["C"], f["P"], f["A"], f["Z"], f["S"] = low[0], low[2], low[4], low[6], low[7]
        elif op == 40:
            self.put(self.a, bits_of(1 if self.condition() else 0, 8))
        elif op == 41 and self.condition():
            self.put(self.a, self.src())

    # shifts, one place after another

    def amount(self, place):
        return (self.z if self.i else self.regs[place]) % (64 if self.k == 64 else 32)

    def shifts(self):
        op, x = self.op, self.get(self.a)
        n = self.amount(self.b)
        if n == 0 or (op in (27, 28) and n % (self.k + 1) == 0):
            return
        high, out, carry = x[-1], 0, self.f["C"]
        for _ in range(n):
            if op == 22:
                out, x = x[-1], [0] + x[:-1]
            elif op == 23:
                out, x = x[0], x[1:] + [0]
            elif op == 24:
                out, x = x[0], x[1:] + [x[-1]]
            elif op == 25:
                x = x[-1:] + x[:-1]
            elif op == 26:
                x = x[1:] + x[:1]
            elif op == 27:
                carry, x = x[-1], [carry] + x[:-1]
            elif op == 28:
                carry, x = x[0], x[1:] + [carry]
        self.put(self.a, x)
        if op in (22, 23, 24):
            self.szp(x)
            self.tell("COA", (out, {22: out != x[-1], 23: high, 24: 0}[op], 0))
        elif op in (25, 26):
            self.tell("CO", {25: (x[0], x[0] != x[-1]), 26: (x[-1], x[-1] != x[-2])}[op])
        else:
            self.tell("CO", (carry, x[-1] != (carry if op == 27 else x[-2])))

    def filled(self):
        if self.k == 8:
            raise Stop(3)
        n = self.amount(self.c) % self.k
        if n == 0:
            return
        x, more, high, out = self.get(self.a), self.get(self.b), self.get(self.a)[-1], 0
        for _ in range(n):
            if self.op == 29:
                out, x, more = x[-1], more[-1:] + x[:-1], more[-1:] + more[:-1]
            else:
                out, x, more = x[0], x[1:] + more[:1], more[1:] + more[:1]
        self.put(self.a, x)
        self.szp(x)
        self.tell("COA", (out, high != x[-1], 0))

    # products

    def long_bits(self, bits, sign):
        return number(bits + [bits[-1] if sign else 0] * self.k)

    def products(self):
        if self.a == self.c:
            raise Stop(3)
        a, c, d, src, op, k = self.get(self.a), self.get(self.c), self.get(self.d), self.src(), self.op, self.k
        if op >= 60:
            self.quotients(a + c, src)
            return
        first = d if op == 59 else a
        sign = op == 58
        whole = bits_of(self.long_bits(first, sign) * self.long_bits(src, sign), 2 * k)
        low, high = whole[:k], whole[k:]
        self.put(self.c, high)
        self.put(self.a, low)
        if op != 59:
            self.szp(low)
            passes = high != [low[-1] if sign else 0] * k
            self.tell("COA", (passes, passes, 0))

    def quotients(self, pair, src):
        if not any(src):
            raise Stop(5)
        minus = self.op == 61
        below, by_below = minus and pair[-1] == 1, minus and src[-1] == 1
        whole = 2 ** (2 * self.k) - number(pair) if below else number(pair)
        by = 2**self.k - number(src) if by_below else number(src)
        quotient, rest = 0, 0
        for bit in reversed(bits_of(whole, 2 * self.k)):
            rest = 2 * rest + bit
            quotient = 2 * quotient + (rest >= by)
            rest = rest - by if rest >= by else rest
        if below != by_below:
            quotient = -quotient
        if below:
            rest = -rest
        least, most = (-(2 ** (self.k - 1)), 2 ** (self.k - 1) - 1) if minus else (0, 2**self.k - 1)
        if not least <= quotient <= most:
            raise Stop(5)
        self.put(self.a, bits_of(quotient, self.k))
        self.put(self.c, bits_of(rest, self.k))

    # decimals

    def decimals(self):
        op, f = self.op, self.f
        low, high = self.regs[self.a] % 256, self.regs[self.a] // 256 % 256
        by = self.z % 256
        if op in (47, 48):
            way, x = (1 if op == 47 else -1), low
            six, sixty = x % 16 > 9 or f["A"], x > 0x99 or f["C"]
            borrowed = False
            if six:
                borrowed = op == 48 and low - 6 < 0
                low += way * 6
            if sixty:
                low += way * 0x60
            self.put(self.a, bits_of(low, 8))
            self.szp(bits_of(low, 8))
            self.tell("CAO", (sixty or borrowed, bool(six), 0))
        elif op in (49, 50):
            six = low % 16 > 9 or f["A"]
            pair = high * 256 + low
            if six:
                pair += 0x106 if op == 49 else -0x106
            bits = bits_of(pair, 16)
            bits[4:8] = [0, 0, 0, 0]
            self.put(self.a, bits)
            self.szp(bits[:8])
            self.tell("CAO", (bool(six), bool(six), 0))
        else:
            if op == 51 and by == 0:
                raise Stop(5)
            parts = (low % by, low // by) if op == 51 else ((high * by + low) % 256, 0)
            self.put(self.a, bits_of(parts[0], 8) + bits_of(parts[1], 8))
            self.szp(bits_of(parts[0], 8))
            self.tell("COA")

    def digits(self, bits):
        text = f"{number(bits):016x}"
        if not text.isdigit():
            raise Stop(6)
        return [int(sign) for sign in reversed(text)]

    def put_digits(self, digits):
        self.put(self.a, bits_of(int("".join(str(digit) for digit in reversed(digits)), 16), 64))

    def long_digits(self):
        if self.w != 3:
            raise Stop(3)
        op, src = self.op, self.src()
        if op == 55:
            if number(src) >= 10**16:
                raise Stop(6)
            self.put(self.a, bits_of(int(str(number(src)), 16), 64))
        elif op == 56:
            self.put(self.a, bits_of(int("".join(str(d) for d in reversed(self.digits(src)))), 64))
        else:
            x, y = self.digits(self.get(self.a)), self.digits(src)
            carry, result = self.f["C"], []
            for one, other in zip(x, y):
                whole = one + other + carry if op == 53 else one - other - carry
                carry = int(not 0 <= whole <= 9)
                result.append(whole % 10)
            self.put_digits(result)
            self.szp(self.get(self.a))
            self.tell("SOAC", (0, 0, 0, carry))

    # bits

    def bit_at(self):
        a = self.get(self.a)
        place = number(self.src()) % self.k
        self.f["C"] = a[place]
        if self.op == 62:
            return
        a[place] = {63: 1, 64: 0, 65: 1 - a[place]}[self.op]
        self.put(self.a, a)

    def found(self):
        src, op, k = self.src(), self.op, self.k
        ones = [place for place, bit in enumerate(src) if bit]
        if op in (66, 67):
            self.f["Z"] = int(not ones)
            if ones:
                self.put(self.a, bits_of(ones[0] if op == 66 else ones[-1], k))
            return
        below, above = (ones[0], k - 1 - ones[-1]) if ones else (k, k)
        count = {68: below, 69: above, 70: len(ones)}[op]
        self.put(self.a, bits_of(count, k))
        self.tell("CZSPOA", (op != 70 and not ones, count == 0, 0, 0, 0, 0))

    def picked(self):
        op, k, b, c = self.op, self.k, self.get(self.b), self.get(self.c)
        at, size = self.regs[self.c] % 256, self.regs[self.c] // 256 % 256
        low = b.index(1) if any(b) else k
        carry = {71: 0, 72: at >= k, 75: 0, 76: any(b), 77: not any(b), 78: not any(b)}[op]
        if op == 71:
            result = (b[at:at + size] + [0] * k)[:k]
        elif op == 72:
            result = (b[:at] + [0] * k)[:k]
        elif op == 75:
            result = [int(x < y) for x, y in zip(b, c)]
        elif op == 76:
            result = [int(place == low) for place in range(k)]
        elif op == 77:
            result = [int(bit and place != low) for place, bit in enumerate(b)]
        else:
            result = [int(place <= low) for place in range(k)]
        self.put(self.a, result)
        self.tell("CSZPOA", (carry, op != 71 and result[-1], not any(result), 0, 0, 0))

    def laid(self):
        op, k, a, b, c = self.op, self.k, self.get(self.a), self.get(self.b), self.get(self.c)
        by = number(c) % k
        if op == 73:
            come = list(b)
            result = [come.pop(0) if one else 0 for one in c]
        elif op == 74:
            result = ([bit for bit, one in zip(b, c) if one] + [0] * k)[:k]
        elif op == 79:
            result = [bit for start in range(k - 8, -1, -8) for bit in a[start:start + 8]]
        elif op == 80:
            result = b[self.z % k:] + b[:self.z % k]
        elif op == 81:
            result = ([0] * by + b)[:k]
        else:
            result = b[by:] + [b[-1] if op == 83 else 0] * by
        self.put(self.a, result)

    def go(self):
        for ops, work in (
            ((1, 2, 3) + tuple(range(5, 22)), self.sums),
            (tuple(range(22, 29)), self.shifts),
            ((29, 30), self.filled),
            ((31, 32, 33, 34, 35, 36, 37, 40, 41), self.marks),
            (tuple(range(47, 53)), self.decimals),
            ((53, 54, 55, 56), self.long_digits),
            ((57, 58, 59, 60, 61), self.products),
            ((62, 63, 64, 65), self.bit_at),
            ((66, 67, 68, 69, 70), self.found),
            ((71, 72, 75, 76, 77, 78), self.picked),
            ((73, 74, 79, 80, 81, 82, 83), self.laid),
        ):
            if self.op in ops:
                work()
                return
        raise Stop(3)


def told(insn, regs, flags):
    """What do has to answer."""
    try:
        model = Model(insn, regs, flags)
        model.go()
    except Stop as stop:
        return [stop.args[0]]
    return model.answer()
