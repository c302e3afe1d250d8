"""Bits: operations 62 to 83."""

from wordmill.words import bit, cut, signed, turned_bytes, turned_left


def probe(step):
    """C by the bit of a that is meant; answers that bit alone."""
    place = step.source() % step.k
    step.flags.carry = (step.low(step.a) >> place) & 1
    return 1 << place


def set_bit(step):
    one = probe(step)
    step.put(step.a, step.low(step.a) | one)


def clear_bit(step):
    one = probe(step)
    step.put(step.a, step.low(step.a) & ~one)


def turn_bit(step):
    one = probe(step)
    step.put(step.a, step.low(step.a) ^ one)


def lowest_one(value):
    return value & -value


def find_lowest(step):
    put_found(step, lowest_one(step.source()))


def find_highest(step):
    put_found(step, step.source())


def put_found(step, value):
    """The place of value's highest one."""
    step.flags.zero = bit(value == 0)
    if value != 0:
        step.put(step.a, value.bit_length() - 1)


def put_result(step, result, sign, carry):
    step.put(step.a, result)
    step.flags.sign = sign
    step.flags.zero = bit(result == 0)
    step.flags.parity = 0
    step.flags.tell_rest(carry, 0, 0)


def put_signed_result(step, result, carry):
    put_result(step, result, result >> (step.k - 1), carry)


def zeros_below(step):
    x = step.source()
    count = step.k if x == 0 else lowest_one(x).bit_length() - 1
    put_result(step, count, 0, bit(x == 0))


def zeros_above(step):
    x = step.source()
    put_result(step, step.k - x.bit_length(), 0, bit(x == 0))


def count_ones(step):
    count = 0
    rest = step.source()
    while rest != 0:
        rest = rest & (rest - 1)
        count = count + 1
    put_result(step, count, 0, 0)


def part(step):
    begin = step.regs[step.c] & 255
    size = (step.regs[step.c] >> 8) & 255
    put_result(step, cut(step.low(step.b) >> begin, size), 0, 0)


def bits_below(step):
    end = step.regs[step.c] & 255
    put_signed_result(step, cut(step.low(step.b), end), bit(end >= step.k))


def not_and(step):
    put_signed_result(step, ~step.low(step.b) & step.low(step.c), 0)


def keep_lowest(step):
    x = step.low(step.b)
    put_signed_result(step, lowest_one(x), bit(x != 0))


def drop_lowest(step):
    x = step.low(step.b)
    put_signed_result(step, x ^ lowest_one(x), bit(x == 0))


def up_to_lowest(step):
    x = step.low(step.b)
    put_signed_result(step, cut(x ^ (x - 1), step.k), bit(x == 0))


def spread(step):
    bits = step.low(step.b)
    places = step.low(step.c)
    result = 0
    while places != 0:
        if bits & 1:
            result = result | lowest_one(places)
        bits = bits >> 1
        places = places & (places - 1)
    step.put(step.a, result)


def gather(step):
    bits = step.low(step.b)
    places = step.low(step.c)
    result = 0
    one = 1
    while places != 0:
        if bits & lowest_one(places):
            result = result | one
        one = one << 1
        places = places & (places - 1)
    step.put(step.a, result)


def turn_bytes(step):
    step.put(step.a, turned_bytes(step.low(step.a), step.k))


def turn_right_by_z(step):
    step.put(step.a, turned_left(step.low(step.b), -step.z % step.k, step.k))


def left_by_c(step):
    step.put(step.a, step.low(step.b) << (step.low(step.c) % step.k))


def right_by_c(step):
    step.put(step.a, step.low(step.b) >> (step.low(step.c) % step.k))


def right_signed_by_c(step):
    step.put(step.a, signed(step.low(step.b), step.k) >> (step.low(step.c) % step.k))


BITS = {
    62: probe,
    63: set_bit,
    64: clear_bit,
    65: turn_bit,
    66: find_lowest,
    67: find_highest,
    68: zeros_below,
    69: zeros_above,
    70: count_ones,
    71: part,
    72: bits_below,
    73: spread,
    74: gather,
    75: not_and,
    76: keep_lowest,
    77: drop_lowest,
    78: up_to_lowest,
    79: turn_bytes,
    80: turn_right_by_z,
    81: left_by_c,
    82: right_by_c,
    83: right_signed_by_c,
}


def did_bits(step):
    """Does the operation if it is told here; answers whether it is."""
    if step.op not in BITS:
        return False
    BITS[step.op](step)
    return True
