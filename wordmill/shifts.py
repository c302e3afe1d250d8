"""Shifts: operations 22 to 30."""

from wordmill.stops import NoInstruction
from wordmill.words import bit, cut, signed, turned_left


def top_bit(step, value):
    return (value >> (step.k - 1)) & 1


def top_two_differ(step, value):
    return top_bit(step, value) ^ top_bit(step, value << 1)


def left(step, x, n):
    whole = x << n
    result = cut(whole, step.k)
    carry = (whole >> step.k) & 1
    step.flags.tell(result, step.k)
    step.flags.tell_rest(carry, carry ^ step.flags.sign, 0)
    return result


def right(step, x, n):
    step.flags.tell(x >> n, step.k)
    step.flags.tell_rest((x >> (n - 1)) & 1, top_bit(step, x), 0)
    return x >> n


def right_signed(step, x, n):
    number = signed(x, step.k)
    result = cut(number >> n, step.k)
    step.flags.tell(result, step.k)
    step.flags.tell_rest((number >> (n - 1)) & 1, 0, 0)
    return result


def turn_left(step, x, n):
    result = turned_left(x, n % step.k, step.k)
    step.flags.carry = result & 1
    step.flags.overflow = step.flags.carry ^ top_bit(step, result)
    return result


def turn_right(step, x, n):
    result = turned_left(x, -n % step.k, step.k)
    step.flags.carry = top_bit(step, result)
    step.flags.overflow = top_two_differ(step, result)
    return result


def turn_with_carry(step, x, n):
    """All k + 1 bits turned left; C is told, O is left to who asks."""
    whole = turned_left((step.flags.carry << step.k) | x, n, step.k + 1)
    step.flags.carry = whole >> step.k
    return cut(whole, step.k)


def turn_left_carry(step, x, n):
    result = turn_with_carry(step, x, n)
    step.flags.overflow = step.flags.carry ^ top_bit(step, result)
    return result


def turn_right_carry(step, x, n):
    result = turn_with_carry(step, x, step.k + 1 - n)
    step.flags.overflow = top_two_differ(step, result)
    return result


def tell_filled(step, x, result, carry):
    step.flags.tell(result, step.k)
    step.flags.tell_rest(carry, bit(top_bit(step, x) != top_bit(step, result)), 0)


def left_filled(step, x, n):
    result = cut((x << n) | (step.low(step.b) >> (step.k - n)), step.k)
    tell_filled(step, x, result, (x >> (step.k - n)) & 1)
    return result


def right_filled(step, x, n):
    result = cut((x >> n) | (step.low(step.b) << (step.k - n)), step.k)
    tell_filled(step, x, result, (x >> (n - 1)) & 1)
    return result


SHIFTS = {
    22: left,
    23: right,
    24: right_signed,
    25: turn_left,
    26: turn_right,
    27: turn_left_carry,
    28: turn_right_carry,
    29: left_filled,
    30: right_filled,
}


def told_count(step, number):
    told = step.z if step.with_z else step.regs[number]
    return told % (64 if step.k == 64 else 32)


def shift_count(step):
    """By how much; 0 where nothing is to be done."""
    if step.op in (29, 30):
        if step.k == 8:
            raise NoInstruction()
        return told_count(step, step.c) % step.k
    n = told_count(step, step.b)
    if step.op in (27, 28):
        return n % (step.k + 1)
    return n


def did_shift(step):
    """Does the operation if it is told here; answers whether it is."""
    if step.op not in SHIFTS:
        return False
    n = shift_count(step)
    if n > 0:
        step.put(step.a, SHIFTS[step.op](step, step.low(step.a), n))
    return True
