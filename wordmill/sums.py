"""Sums and flags: operations 1 to 3, 5 to 21, 31 to 37, 40 and 41."""

from wordmill.words import bit, cut, signed


def plus(step, x, y, carry):
    """x + y + carry at the step's width, all its flags told."""
    whole = x + y + carry
    result = cut(whole, step.k)
    wanted = signed(x, step.k) + signed(y, step.k) + carry
    step.flags.tell(result, step.k)
    step.flags.tell_rest(
        whole >> step.k,
        bit(signed(result, step.k) != wanted),
        ((x & 15) + (y & 15) + carry) >> 4,
    )
    return result


def minus(step, x, y, borrow):
    """x - y - borrow at the step's width, all its flags told."""
    whole = x - y - borrow
    result = cut(whole, step.k)
    wanted = signed(x, step.k) - signed(y, step.k) - borrow
    step.flags.tell(result, step.k)
    step.flags.tell_rest(
        bit(whole < 0),
        bit(signed(result, step.k) != wanted),
        bit((x & 15) - (y & 15) - borrow < 0),
    )
    return result


def logic(step, result):
    step.flags.tell(result, step.k)
    step.flags.tell_rest(0, 0, 0)
    return result


def holds(flags, condition):
    less = flags.sign ^ flags.overflow
    even = (
        flags.overflow,
        flags.carry,
        flags.zero,
        flags.carry | flags.zero,
        flags.sign,
        flags.parity,
        less,
        less | flags.zero,
    )
    return even[condition >> 1] != (condition & 1)


def move(step):
    step.put(step.a, step.source())


def move_place(step):
    step.put_low(step.a, step.regs[step.b] + step.z, 64)


def swap(step):
    step.need_no_z()
    x = step.low(step.a)
    y = step.low(step.b)
    step.put(step.a, y)
    step.put(step.b, x)


def widen_signed(step):
    step.put_low(step.a, signed(step.source(), step.k), 64)


def widen(step):
    step.put_low(step.a, step.source(), 64)


def add(step):
    step.put(step.a, plus(step, step.low(step.a), step.source(), 0))


def add_carry(step):
    step.put(step.a, plus(step, step.low(step.a), step.source(), step.flags.carry))


def take(step):
    step.put(step.a, minus(step, step.low(step.a), step.source(), 0))


def take_carry(step):
    step.put(step.a, minus(step, step.low(step.a), step.source(), step.flags.carry))


def compare(step):
    minus(step, step.low(step.a), step.source(), 0)


def both(step):
    step.put(step.a, logic(step, step.low(step.a) & step.source()))


def either(step):
    step.put(step.a, logic(step, step.low(step.a) | step.source()))


def differ(step):
    step.put(step.a, logic(step, step.low(step.a) ^ step.source()))


def compare_both(step):
    logic(step, step.low(step.a) & step.source())


def negate(step):
    step.put(step.a, minus(step, 0, step.low(step.a), 0))


def turn_bits(step):
    step.put(step.a, ~step.low(step.a))


def one_more(step):
    kept = step.flags.carry
    step.put(step.a, plus(step, step.low(step.a), 1, 0))
    step.flags.carry = kept


def one_less(step):
    kept = step.flags.carry
    step.put(step.a, minus(step, step.low(step.a), 1, 0))
    step.flags.carry = kept


def swap_add(step):
    step.need_no_z()
    x = step.low(step.a)
    result = plus(step, x, step.low(step.b), 0)
    # b first: where both are one register, the sum is what stays
    step.put(step.b, x)
    step.put(step.a, result)


def compare_swap(step):
    x = step.low(step.a)
    if minus(step, step.low(step.c), x, 0) == 0:
        step.put(step.a, step.source())
    else:
        step.put(step.c, x)


def clear_carry(step):
    step.flags.carry = 0


def set_carry(step):
    step.flags.carry = 1


def turn_carry(step):
    step.flags.carry = 1 - step.flags.carry


def clear_direction(step):
    step.flags.direction = 0


def set_direction(step):
    step.flags.direction = 1


def flags_to_byte(step):
    step.put_low(step.a, step.flags.low_byte() + 2, 8)


def byte_to_flags(step):
    byte = step.regs[step.a]
    step.flags.carry = byte & 1
    step.flags.parity = (byte >> 2) & 1
    step.flags.adjust = (byte >> 4) & 1
    step.flags.zero = (byte >> 6) & 1
    step.flags.sign = (byte >> 7) & 1


def put_condition(step):
    step.put_low(step.a, bit(holds(step.flags, step.d)), 8)


def move_if(step):
    if holds(step.flags, step.d):
        step.put(step.a, step.source())


SUMS = {
    1: move,
    2: move_place,
    3: swap,
    5: widen_signed,
    6: widen,
    7: add,
    8: add_carry,
    9: take,
    10: take_carry,
    11: compare,
    12: both,
    13: either,
    14: differ,
    15: compare_both,
    16: negate,
    17: turn_bits,
    18: one_more,
    19: one_less,
    20: swap_add,
    21: compare_swap,
    31: clear_carry,
    32: set_carry,
    33: turn_carry,
    34: clear_direction,
    35: set_direction,
    36: flags_to_byte,
    37: byte_to_flags,
    40: put_condition,
    41: move_if,
}


def did_sum(step):
    """Does the operation if it is told here; answers whether it is."""
    if step.op not in SUMS:
        return False
    SUMS[step.op](step)
    return True
