"""Products: operations 57 to 61."""

from wordmill.stops import NoQuotient
from wordmill.words import bit, cut, signed


def put_pair(step, high, low):
    step.put(step.c, high)
    step.put(step.a, low)


def put_product(step, whole, passes):
    put_pair(step, whole >> step.k, whole)
    step.flags.tell(cut(whole, step.k), step.k)
    step.flags.tell_rest(passes, passes, 0)


def multiply(step):
    whole = step.low(step.a) * step.source()
    put_product(step, whole, bit(whole >> step.k != 0))


def multiply_signed(step):
    whole = signed(step.low(step.a), step.k) * signed(step.source(), step.k)
    said = signed(cut(whole, step.k), step.k)
    put_product(step, whole, bit(said != whole))


def multiply_plain(step):
    whole = step.low(step.d) * step.source()
    put_pair(step, whole >> step.k, whole)


def pair(step):
    return (step.low(step.c) << step.k) | step.low(step.a)


def divide(step):
    whole = pair(step)
    by = step.source()
    if by == 0 or (whole // by) >> step.k != 0:
        raise NoQuotient()
    put_pair(step, whole % by, whole // by)


def cut_quotient(whole, by):
    """Towards 0, where // goes down."""
    size = abs(whole) // abs(by)
    return size if (whole < 0) == (by < 0) else -size


def divide_signed(step):
    whole = signed(pair(step), 2 * step.k)
    by = signed(step.source(), step.k)
    if by == 0:
        raise NoQuotient()
    quotient = cut_quotient(whole, by)
    if signed(cut(quotient, step.k), step.k) != quotient:
        raise NoQuotient()
    put_pair(step, whole - quotient * by, quotient)


PRODUCTS = {
    57: multiply,
    58: multiply_signed,
    59: multiply_plain,
    60: divide,
    61: divide_signed,
}


def did_product(step):
    """Does the operation if it is told here; answers whether it is."""
    if step.op not in PRODUCTS:
        return False
    step.need_two_registers()
    PRODUCTS[step.op](step)
    return True
