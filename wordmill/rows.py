"""The work on rows of words, the lowest first."""

from wordmill.decimals import SIXTEEN_DIGITS, digits_number, number_digits
from wordmill.words import bit, cut


def sum_words(n, z, x, carry):
    """z + x + carry: n words, and above them what passes."""
    words = []
    passes = carry
    for place in range(n):
        whole = z[place] + x[place] + passes
        words.append(cut(whole, 64))
        passes = whole >> 64
    return words + [passes]


def difference_words(n, z, x, borrow):
    """z - x - borrow: n words, and above them what is borrowed."""
    words = []
    passes = borrow
    for place in range(n):
        whole = z[place] - x[place] - passes
        words.append(cut(whole, 64))
        passes = bit(whole < 0)
    return words + [passes]


def digit_words(n, z, x, carry):
    """z + x + carry as digits: n words, and above them what passes."""
    words = []
    passes = carry
    for place in range(n):
        whole = digits_number(z[place]) + digits_number(x[place]) + passes
        words.append(number_digits(whole % SIXTEEN_DIGITS))
        passes = whole // SIXTEEN_DIGITS
    return words + [passes]


def tell_row(n, words, overflow, flags):
    """All flags but D, by a row of n words and what passes above it; answers the row."""
    row = words[:n]
    flags.sign = row[n - 1] >> 63
    flags.zero = bit(not any(row))
    flags.parity = 0
    flags.tell_rest(words[n], overflow, 0)
    return row


def add_row(n, z, x, flags):
    """z + x + C as a new row; flags are changed in place."""
    words = sum_words(n, z, x, flags.carry)
    top = words[n - 1]
    # like signs that give the other sign: only then is the signed sum another
    turned = (z[n - 1] ^ top) & (x[n - 1] ^ top)
    return tell_row(n, words, turned >> 63, flags)


def sub_row(n, z, x, flags):
    """z - x - C as a new row; flags are changed in place."""
    words = difference_words(n, z, x, flags.carry)
    # unlike signs that don't give z's: only then is the signed difference another
    turned = (z[n - 1] ^ x[n - 1]) & (z[n - 1] ^ words[n - 1])
    return tell_row(n, words, turned >> 63, flags)


def decimal_row(n, z, x, flags):
    """z + x + C as a new row of digits; flags are changed in place."""
    return tell_row(n, digit_words(n, z, x, flags.carry), 0, flags)


def order_rows(n, z, x, flags):
    """The flags of z - x, with C taken as clear; they are changed in place."""
    flags.carry = 0
    sub_row(n, z, x, flags)


def two_rows(n, z, y, x, flags):
    """z + x + C and y + x + O as two new rows, one behind the other; flags are changed in place."""
    z_words = sum_words(n, z, x, flags.carry)
    y_words = sum_words(n, y, x, flags.overflow)
    flags.carry = z_words[n]
    flags.overflow = y_words[n]
    return z_words[:n] + y_words[:n]


def more_words(n, z, x, by, carry):
    """z + x * by + carry: n words, and above them what passes."""
    words = []
    passes = carry
    for place in range(n):
        whole = z[place] + x[place] * by + passes
        words.append(cut(whole, 64))
        passes = whole >> 64
    return words + [passes]


def product_row(n, y, x):
    """x * y as a new row of 2 n words."""
    done = []
    rest = [0] * n
    for place in range(n):
        # with each word of y, the lowest word of what is there so far is done
        words = more_words(n, rest, x, y[place], 0)
        done.append(words[0])
        rest = words[1:]
    return done + rest


def left_words(n, z, by, bits):
    """z by 2 ** by, bits' highest below: n words, and above them what passes."""
    words = []
    coming = bits >> (64 - by)
    for place in range(n):
        words.append(cut(z[place] << by, 64) | coming)
        coming = z[place] >> (64 - by)
    return words + [coming]


def right_words(n, z, by, bits):
    """Those that went, as a word's highest bits, and above that word n words: z to the right, bits' lowest above."""
    words = []
    staying = 0
    for word in z[:n] + [bits]:
        words.append(cut(word << (64 - by), 64) | staying)
        staying = word >> by
    return words


def digit_rows(n, low, high, x, y):
    """Products of 52 bits each: low with their lower 52 bits and high with the rest, one row behind the other."""
    lows = []
    highs = []
    for place in range(n):
        whole = cut(x[place], 52) * cut(y[place], 52)
        lows.append(cut(low[place] + cut(whole, 52), 64))
        highs.append(cut(high[place] + (whole >> 52), 64))
    return lows + highs
