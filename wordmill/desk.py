"""The calls: lists of whole numbers in, one list of whole numbers out."""

from wordmill.flags import Flags
from wordmill.machine import Machine
from wordmill.memory import Memory
from wordmill.rows import (
    add_row,
    decimal_row,
    digit_rows,
    left_words,
    more_words,
    order_rows,
    product_row,
    right_words,
    sub_row,
    two_rows,
)
from wordmill.step import Step
from wordmill.stops import NoDigits, NoInstruction, NoQuotient
from wordmill.work import keep_going, perform


def do(insn, regs, flags):
    """0, 16, the registers, 1 and the flags; or 3, 5 or 6 alone."""
    regs_then = list(regs)
    flags_then = Flags(flags[0])
    try:
        perform(Step(insn[0], regs_then, flags_then))
    except NoInstruction:
        return [3]
    except NoQuotient:
        return [5]
    except NoDigits:
        return [6]
    return [0, 16] + regs_then + [1, flags_then.word()]


def told_rows(z, y, word):
    return [0, len(z)] + z + [len(y)] + y + [1, word]


def add(n, z, empty, x, flags, bare):
    """0, the row z + x + C with its length, a row of none, 1 and the flags."""
    flags_then = Flags(flags[0])
    row = add_row(n[0], z, x, flags_then)
    return told_rows(row, [], flags_then.word())


def sub(n, z, empty, x, flags, bare):
    """0, the row z - x - C with its length, a row of none, 1 and the flags."""
    flags_then = Flags(flags[0])
    row = sub_row(n[0], z, x, flags_then)
    return told_rows(row, [], flags_then.word())


def decimal(n, z, empty, x, flags, bare):
    """0, the row z + x + C of digits with its length, a row of none, 1 and the flags; or 6 alone."""
    flags_then = Flags(flags[0])
    try:
        row = decimal_row(n[0], z, x, flags_then)
    except NoDigits:
        return [6]
    return told_rows(row, [], flags_then.word())


def order(n, z, empty, x, flags, bare):
    """0, two rows of none, 1 and the flags of z - x."""
    flags_then = Flags(flags[0])
    order_rows(n[0], z, x, flags_then)
    return told_rows([], [], flags_then.word())


def two(n, z, y, x, flags, bare):
    """0, the rows z + x + C and y + x + O with their lengths, 1 and the flags."""
    flags_then = Flags(flags[0])
    rows = two_rows(n[0], z, y, x, flags_then)
    return told_rows(rows[:n[0]], rows[n[0]:], flags_then.word())


def more(n, z, empty, x, by, carry):
    """0, the row z + x * by + carry with its length, a row of none, 1 and what passes."""
    words = more_words(n[0], z, x, by[0], carry[0])
    return told_rows(words[:n[0]], [], words[n[0]])


def product(n, empty, y, x, bare, last):
    """0, the row x * y of 2 n words with its length, a row of none, 1 and 0."""
    return told_rows(product_row(n[0], y, x), [], 0)


def left(n, z, empty, bare, by, bits):
    """0, the row z by 2 ** by with its length, a row of none, 1 and what passes."""
    words = left_words(n[0], z, by[0], bits[0])
    return told_rows(words[:n[0]], [], words[n[0]])


def right(n, z, empty, bare, by, bits):
    """0, the row z by so many bits to the right with its length, a row of none, 1 and those that went."""
    words = right_words(n[0], z, by[0], bits[0])
    return told_rows(words[1:], [], words[0])


def digits(n, low, high, x, y, bare):
    """0, the rows low and high as they are then with their lengths, 1 and 0."""
    rows = digit_rows(n[0], low, high, x, y)
    return told_rows(rows[:n[0]], rows[n[0]:], 0)


def run(steps, regs, begin, memory, told):
    """How many steps were done, 1 and why it ended, 16 and the registers, 2, the place and the flags, the bytes."""
    machine = Machine(list(regs), begin[0], Flags(begin[1]), Memory(memory[0], memory[1:]))
    why = keep_going(machine, steps[0])
    count = told[1]
    cells = machine.memory.cells[told[0]:told[0] + count]
    answer = [machine.done, 1, why, 16] + machine.regs
    return answer + [2, machine.place, machine.flags.word(), count] + cells
