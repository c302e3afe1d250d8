"""What the tests share: instructions put together, answers taken apart."""

import random
import unittest

from wordmill import desk

C, P, A, Z, S, D, O = 1, 4, 16, 64, 128, 1024, 2048
ALL = C + P + A + Z + S + D + O
WORD = 2**64 - 1
TOP = 2**63
HIGH = 0xAAAAAAAAAAAAAAAA

DONE = list(range(1, 4)) + list(range(5, 38)) + [40, 41] + list(range(47, 84))
WIDTHS = (0, 1, 2, 3)


def insn(op, w=3, i=0, a=0, b=1, c=2, d=3, z=0):
    """The eight bytes as a number, the lowest first."""
    eight = [op, w + 4 * i, a + 16 * c, b + 16 * d]
    return int.from_bytes(bytes(eight) + z.to_bytes(4, "little", signed=True), "little")


def registers(**given):
    """Sixteen unlike registers; r0=.., r5=.. put others in their places."""
    regs = [0x0123456789ABCDEF ^ (k * 0x1111111111111111) for k in range(16)]
    for name, value in given.items():
        regs[int(name[1:])] = value
    return regs


def put(w, value):
    """What stands in a register of HIGH once value went into it."""
    k = 8 << w
    return value if k >= 32 else (HIGH >> k << k) | value


def word(names):
    """A word of flags from their letters."""
    return sum({"C": C, "P": P, "A": A, "Z": Z, "S": S, "D": D, "O": O}[name] for name in names)


def edges(k):
    """Numbers of k bits at which something changes."""
    top = 1 << (k - 1)
    near = [0, 1, 2, 6, 9, 10, 15, 16, top - 1, top, top + 1, 2 * top - 2, 2 * top - 1]
    return sorted({value % (1 << k) for value in near})


def any_digits(source):
    """A word of sixteen digits."""
    return int("".join(source.choice("0123456789") for _ in range(16)), 16)


def any_word(source):
    """A word that is often near an edge, in its low bits or as a whole."""
    kind = source.randrange(5)
    if kind == 0:
        return source.getrandbits(64)
    if kind == 1:
        return source.choice(edges(source.choice((8, 16, 32, 64))))
    if kind == 2:
        k = source.choice((8, 16, 32))
        return (source.getrandbits(64 - k) << k) | source.choice(edges(k))
    if kind == 3:
        return any_digits(source)
    return source.getrandbits(source.randrange(1, 65))


def whole(row):
    """The number that a row of words says."""
    return sum(value << (64 * place) for place, value in enumerate(row))


def words(number, n):
    """The row of n words that says a number, cut to it."""
    return [(number >> (64 * place)) & WORD for place in range(n)]


def signed(number, n):
    """The signed number that n words stand for."""
    return number - (1 << (64 * n)) if number >> (64 * n - 1) else number


def steady(seed):
    return random.Random(seed)


class Fixed(list):
    """A list that does not let itself be changed."""

    def refuse(self, *args, **named):
        raise AssertionError("what was handed in is changed")

    append = extend = insert = pop = remove = clear = sort = reverse = refuse
    __setitem__ = __delitem__ = __iadd__ = __imul__ = refuse


class DeskCase(unittest.TestCase):
    """Checks on do's answers."""

    def done(self, number, regs, flags=0):
        """The registers and flags of an instruction that is done."""
        answer = desk.do([number], regs, [flags])
        self.assertEqual(answer[:2], [0, 16])
        self.assertEqual(len(answer), 20)
        self.assertEqual(answer[18], 1)
        return answer[2:18], answer[19]

    def check(self, number, regs, flags, changed, flags_then):
        """Just the registers in changed are others, and the flags are as told."""
        wanted = list(regs)
        for place, value in changed.items():
            wanted[place] = value
        regs_then, told = self.done(number, regs, flags)
        self.assertEqual([hex(r) for r in regs_then], [hex(r) for r in wanted])
        self.assertEqual(told, flags_then)

    def stops(self, number, regs, why, flags=0):
        self.assertEqual(desk.do([number], regs, [flags]), [why])


class RowCase(unittest.TestCase):
    """Checks that hold for every call."""

    def check_call(self, call, given, answer):
        """By names and by places, nothing handed in is changed, nothing is kept, all are whole numbers."""
        fixed = {name: Fixed(value) for name, value in given.items()}
        first = call(**fixed)
        self.assertEqual(first, answer)
        self.assertIs(type(first), list)
        self.assertEqual({type(value) for value in first}, {int})
        self.assertEqual(fixed, given)
        for place in range(len(first)):
            first[place] = 77
        self.assertEqual(call(*fixed.values()), answer)
        self.assertEqual(fixed, given)


PLACE = 0x4000


def eight(number):
    """A number's eight bytes, the lowest first."""
    return list((number % 2**64).to_bytes(8, "little"))


def row_bytes(row):
    return [byte for value in row for byte in eight(value)]


def code_bytes(code):
    """Instructions one behind another."""
    return row_bytes(code)


def filled(data):
    """All of the memory, with the bytes of data at their places."""
    cells = [0] * 65536
    for place, values in data.items():
        cells[place:place + len(values)] = list(values)
    assert len(cells) == 65536
    return cells


def handed(data):
    """The memory as run takes it: a place, and the bytes from there on."""
    begin = min(data)
    end = max(place + len(values) for place, values in data.items())
    assert end - begin < 58000
    return [begin] + filled(data)[begin:end]


class Ran:
    """run's answer, taken apart."""

    def __init__(self, case, answer):
        case.assertEqual([answer[1], answer[3], answer[20], answer[23]], [1, 16, 2, len(answer) - 24])
        self.done, self.why = answer[0], answer[2]
        self.regs = answer[4:20]
        self.place, self.flags = answer[21], answer[22]
        self.cells = answer[24:]


class RunCase(unittest.TestCase):
    """Checks on run's answers; the instructions stand at PLACE unless another place is told."""

    def ran(self, code, regs, flags=0, data=None, steps=None, place=PLACE):
        steps = len(code) if steps is None else steps
        data = dict(data or {})
        data[place] = code_bytes(code)
        return Ran(self, desk.run([steps], regs, [place, flags], handed(data), [0, 65536]))

    def same_cells(self, cells, wanted, code):
        if cells != wanted:
            other = [(hex(k), cells[k], wanted[k]) for k in range(65536) if cells[k] != wanted[k]]
            self.fail(f"{code}: bytes are others than wanted: {other[:20]}")

    def does(self, code, regs, flags=0, data=None, changed=None, after=None, stored=None, onward=None, place=PLACE):
        """One instruction is done: just these registers and bytes are others, and the flags as told."""
        then = self.ran([code], regs, flags, data, 1, place)
        wanted = list(regs)
        for number, value in (changed or {}).items():
            wanted[number] = value
        self.assertEqual([then.done, then.why], [1, 0], hex(code))
        self.assertEqual([hex(value) for value in then.regs], [hex(value) for value in wanted], hex(code))
        self.assertEqual(then.flags, flags & ALL if after is None else after, hex(code))
        self.assertEqual(hex(then.place), hex(place + 8 if onward is None else onward))
        cells = filled({**(data or {}), place: code_bytes([code])})
        for at, values in (stored or {}).items():
            cells[at:at + len(values)] = list(values)
        self.same_cells(then.cells, cells, hex(code))

    def halts(self, code, regs, why, flags=0, data=None, place=PLACE):
        """The instruction stops the machine and does nothing else."""
        for before in (flags, flags ^ ALL):
            then = self.ran([code], regs, before, data, 3, place)
            self.assertEqual([then.done, then.why], [0, why], hex(code))
            self.assertEqual([hex(value) for value in then.regs], [hex(value) for value in regs], hex(code))
            self.assertEqual([then.place, then.flags], [place, before & ALL], hex(code))
            self.same_cells(then.cells, filled({**(data or {}), place: code_bytes([code])}), hex(code))
