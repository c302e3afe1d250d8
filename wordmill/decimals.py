"""Decimals: operations 47 to 56."""

from wordmill.stops import NoDigits, NoInstruction, NoQuotient
from wordmill.words import bit, cut

SIXTEEN_DIGITS = 10000000000000000


def digits_number(word):
    """The number that a word's sixteen digits say."""
    number = 0
    for place in range(60, -1, -4):
        digit = (word >> place) & 15
        if digit > 9:
            raise NoDigits()
        number = number * 10 + digit
    return number


def number_digits(number):
    """The word of digits that says a number below 10 ** 16."""
    word = 0
    rest = number
    for place in range(0, 64, 4):
        word = word | ((rest % 10) << place)
        rest = rest // 10
    return word


def needs_six(flags, x):
    return bit((x & 15) > 9 or flags.adjust == 1)


def needs_sixty(flags, x):
    return bit(x > 0x99 or flags.carry == 1)


def put_adjusted(step, value, k, carry, adjust):
    step.put_low(step.a, value, k)
    step.flags.tell(value & 255, 8)
    step.flags.tell_rest(carry, 0, adjust)


def after_sum(step):
    x = step.regs[step.a] & 255
    six = needs_six(step.flags, x)
    sixty = needs_sixty(step.flags, x)
    put_adjusted(step, x + 6 * six + 0x60 * sixty, 8, sixty, six)


def after_difference(step):
    x = step.regs[step.a] & 255
    six = needs_six(step.flags, x)
    sixty = needs_sixty(step.flags, x)
    borrows = bit(x < 6 * six)
    put_adjusted(step, x - 6 * six - 0x60 * sixty, 8, sixty | borrows, six)


def digit_after_sum(step):
    x = cut(step.regs[step.a], 16)
    six = needs_six(step.flags, x)
    put_adjusted(step, (x + 0x106 * six) & 0xFF0F, 16, six, six)


def digit_after_difference(step):
    x = cut(step.regs[step.a], 16)
    six = needs_six(step.flags, x)
    put_adjusted(step, (x - 0x106 * six) & 0xFF0F, 16, six, six)


def split_byte(step):
    x = step.regs[step.a] & 255
    by = step.z & 255
    if by == 0:
        raise NoQuotient()
    put_adjusted(step, ((x // by) << 8) | (x % by), 16, 0, 0)


def join_bytes(step):
    x = step.regs[step.a]
    whole = ((x >> 8) & 255) * (step.z & 255) + (x & 255)
    put_adjusted(step, whole & 255, 16, 0, 0)


def put_digits(step, whole):
    """C is set where whole is a sum of too many digits, or below 0."""
    word = number_digits(whole % SIXTEEN_DIGITS)
    step.put(step.a, word)
    step.flags.tell(word, step.k)
    step.flags.sign = 0
    step.flags.tell_rest(bit(whole < 0 or whole >= SIXTEEN_DIGITS), 0, 0)


def add_digits(step):
    x = digits_number(step.low(step.a))
    put_digits(step, x + digits_number(step.source()) + step.flags.carry)


def take_digits(step):
    x = digits_number(step.low(step.a))
    put_digits(step, x - digits_number(step.source()) - step.flags.carry)


def to_digits(step):
    number = step.source()
    if number >= SIXTEEN_DIGITS:
        raise NoDigits()
    step.put(step.a, number_digits(number))


def from_digits(step):
    step.put(step.a, digits_number(step.source()))


DECIMALS = {
    47: after_sum,
    48: after_difference,
    49: digit_after_sum,
    50: digit_after_difference,
    51: split_byte,
    52: join_bytes,
    53: add_digits,
    54: take_digits,
    55: to_digits,
    56: from_digits,
}


def did_decimal(step):
    """Does the operation if it is told here; answers whether it is."""
    if step.op not in DECIMALS:
        return False
    if step.op >= 53 and step.k != 64:
        raise NoInstruction()
    DECIMALS[step.op](step)
    return True
