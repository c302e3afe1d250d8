"""Rows in memory: operations 102 to 110 and 112."""

from wordmill.rows import (
    add_row,
    decimal_row,
    digit_rows,
    left_words,
    more_words,
    order_rows,
    product_row,
    right_words,
    sub_row,
    two_rows,
)
from wordmill.stops import NoInstruction


def row_at(machine, number, n):
    return machine.memory.load_row(machine.regs[number], n)


def put_row(machine, number, row):
    machine.memory.save_row(machine.regs[number], row)


def add(machine, step, n):
    row = add_row(n, row_at(machine, step.a, n), row_at(machine, step.b, n), step.flags)
    put_row(machine, step.a, row)


def sub(machine, step, n):
    row = sub_row(n, row_at(machine, step.a, n), row_at(machine, step.b, n), step.flags)
    put_row(machine, step.a, row)


def two(machine, step, n):
    z = row_at(machine, step.a, n)
    y = row_at(machine, step.c, n)
    rows = two_rows(n, z, y, row_at(machine, step.b, n), step.flags)
    put_row(machine, step.a, rows[:n])
    put_row(machine, step.c, rows[n:])


def more(machine, step, n):
    z = row_at(machine, step.a, n)
    x = row_at(machine, step.b, n)
    words = more_words(n, z, x, step.regs[step.c], step.regs[step.d])
    put_row(machine, step.a, words[:n])
    # the register that held the carry is where what passes is found
    step.regs[step.d] = words[n]


def product(machine, step, n):
    row = product_row(n, row_at(machine, step.c, n), row_at(machine, step.b, n))
    put_row(machine, step.a, row)


def left(machine, step, n):
    words = left_words(n, row_at(machine, step.a, n), step.regs[step.c] % 64, step.regs[step.d])
    put_row(machine, step.a, words[:n])
    step.regs[step.d] = words[n]


def right(machine, step, n):
    words = right_words(n, row_at(machine, step.a, n), step.regs[step.c] % 64, step.regs[step.d])
    put_row(machine, step.a, words[1:])
    step.regs[step.d] = words[0]


def digits(machine, step, n):
    low = row_at(machine, step.a, n)
    high = row_at(machine, step.d, n)
    rows = digit_rows(n, low, high, row_at(machine, step.b, n), row_at(machine, step.c, n))
    put_row(machine, step.a, rows[:n])
    put_row(machine, step.d, rows[n:])


def order(machine, step, n):
    order_rows(n, row_at(machine, step.a, n), row_at(machine, step.b, n), step.flags)


def decimal(machine, step, n):
    row = decimal_row(n, row_at(machine, step.a, n), row_at(machine, step.b, n), step.flags)
    put_row(machine, step.a, row)


LONGS = {
    102: add,
    103: sub,
    104: two,
    105: more,
    106: product,
    107: left,
    108: right,
    109: digits,
    110: order,
    112: decimal,
}


def did_long(machine, step):
    """Does the operation if it is told here; answers whether it is."""
    if step.op not in LONGS:
        return False
    n = 8 if step.op == 109 else step.z
    if n < 1 or n > 256:
        raise NoInstruction()
    LONGS[step.op](machine, step, n)
    return True
