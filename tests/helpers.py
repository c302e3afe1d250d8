"""What the tests share: instructions put together, answers taken apart."""

import random
import unittest

from wordmill import desk

C, P, A, Z, S, D, O = 1, 4, 16, 64, 128, 1024, 2048
ALL = C + P + A + Z + S + D + O
WORD = 2**64 - 1
TOP = 2**63
HIGH = 0xAAAAAAAAAAAAAAAA

DONE = list(range(1, 4)) + list(range(5, 38)) + [40, 41] + list(range(47, 84))
WIDTHS = (0, 1, 2, 3)


def insn(op, w=3, i=0, a=0, b=1, c=2, d=3, z=0):
    """The eight bytes as a number, the lowest first."""
    eight = [op, w + 4 * i, a + 16 * c, b + 16 * d]
    return int.from_bytes(bytes(eight) + z.to_bytes(4, "little", signed=True), "little")


def registers(**given):
    """Sixteen unlike registers; r0=.., r5=.. put others in their places."""
    regs = [0x0123456789ABCDEF ^ (k * 0x1111111111111111) for k in range(16)]
    for name, value in given.items():
        regs[int(name[1:])] = value
    return regs


def put(w, value):
    """What stands in a register of HIGH once value went into it."""
    k = 8 << w
    return value if k >= 32 else (HIGH >> k << k) | value


def word(names):
    """A word of flags from their letters."""
    return sum({"C": C, "P": P, "A": A, "Z": Z, "S": S, "D": D, "O": O}[name] for name in names)


def edges(k):
    """Numbers of k bits at which something changes."""
    top = 1 << (k - 1)
    near = [0, 1, 2, 6, 9, 10, 15, 16, top - 1, top, top + 1, 2 * top - 2, 2 * top - 1]
    return sorted({value % (1 << k) for value in near})


def any_digits(source):
    """A word of sixteen digits."""
    return int("".join(source.choice("0123456789") for _ in range(16)), 16)


def any_word(source):
    """A word that is often near an edge, in its low bits or as a whole."""
    kind = source.randrange(5)
    if kind == 0:
        return source.getrandbits(64)
    if kind == 1:
        return source.choice(edges(source.choice((8, 16, 32, 64))))
    if kind == 2:
        k = source.choice((8, 16, 32))
        return (source.getrandbits(64 - k) << k) | source.choice(edges(k))
    if kind == 3:
        return any_digits(source)
    return source.getrandbits(source.randrange(1, 65))


def whole(row):
    """The number that a row of words says."""
    return sum(value << (64 * place) for place, value in enumerate(row))


def words(number, n):
    """The row of n words that says a number, cut to it."""
    return [(number >> (64 * place)) & WORD for place in range(n)]


def signed(number, n):
    """The signed number that n words stand for."""
    return number - (1 << (64 * n)) if number >> (64 * n - 1) else number


def steady(seed):
    return random.Random(seed)


class Fixed(list):
    """A list that does not let itself be changed."""

    def refuse(self, *args, **named):
        raise AssertionError("what was handed in is changed")

    append = extend = insert = pop = remove = clear = sort = reverse = refuse
    __setitem__ = __delitem__ = __iadd__ = __imul__ = refuse


class DeskCase(unittest.TestCase):
    """Checks on do's answers."""

    def done(self, number, regs, flags=0):
        """The registers and flags of an instruction that is done."""
        answer = desk.do([number], regs, [flags])
        self.assertEqual(answer[:2], [0, 16])
        self.assertEqual(len(answer), 20)
        self.assertEqual(answer[18], 1)
        return answer[2:18], answer[19]

    def check(self, number, regs, flags, changed, flags_then):
        """Just the registers in changed are others, and the flags are as told."""
        wanted = list(regs)
        for place, value in changed.items():
            wanted[place] = value
        regs_then, told = self.done(number, regs, flags)
        self.assertEqual([hex(r) for r in regs_then], [hex(r) for r in wanted])
        self.assertEqual(told, flags_then)

    def stops(self, number, regs, why, flags=0):
        self.assertEqual(desk.do([number], regs, [flags]), [why])


class RowCase(unittest.TestCase):
    """Checks that hold for every call."""

    def check_call(self, call, given, answer):
        """By names and by places, nothing handed in is changed, nothing is kept, all are whole numbers."""
        fixed = {name: Fixed(value) for name, value in given.items()}
        first = call(**fixed)
        self.assertEqual(first, answer)
        self.assertIs(type(first), list)
        self.assertEqual({type(value) for value in first}, {int})
        self.assertEqual(fixed, given)
        for place in range(len(first)):
            first[place] = 77
        self.assertEqual(call(*fixed.values()), answer)
        self.assertEqual(fixed, given)
