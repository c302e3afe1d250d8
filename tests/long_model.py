"""A second telling of the calls on rows, by long numbers, where the program goes word by word.

Each answers z's row, y's row and the word.
"""

from helpers import ALL, C, D, O, S, Z, signed, whole, words


def tell(n, exact, exact_signed, flags):
    """The row and the flags of a sum or difference that is told exactly."""
    result = exact % (1 << (64 * n))
    told = flags & D
    told += C * (exact != result)
    told += O * (exact_signed != signed(result, n))
    told += S * (result >> (64 * n - 1))
    told += Z * (result == 0)
    return words(result, n), [], told


def add(z, x, flags):
    n, carry = len(z), flags & 1
    exact_signed = signed(whole(z), n) + signed(whole(x), n) + carry
    return tell(n, whole(z) + whole(x) + carry, exact_signed, flags)


def sub(z, x, flags):
    n, borrow = len(z), flags & 1
    exact_signed = signed(whole(z), n) - signed(whole(x), n) - borrow
    return tell(n, whole(z) - whole(x) - borrow, exact_signed, flags)


def decimal(z, x, flags):
    """None where one of the digits is none."""
    n = len(z)
    texts = [f"{whole(row):0{16 * n}x}" for row in (z, x)]
    if not all(text.isdigit() for text in texts):
        return None
    carry, digits = flags & 1, ""
    for one, other in zip(reversed(texts[0]), reversed(texts[1])):
        count = int(one) + int(other) + carry
        digits = str(count % 10) + digits
        carry = count // 10
    told = (flags & D) + C * carry + S * (digits[0] in "89") + Z * (set(digits) == {"0"})
    return words(int(digits, 16), n), [], told


def order(z, x, flags):
    return [], [], sub(z, x, flags & ~C)[2]


def two(z, y, x, flags):
    n = len(z)
    first = whole(z) + whole(x) + (flags & C != 0)
    other = whole(y) + whole(x) + (flags & O != 0)
    told = flags & ALL & ~C & ~O
    told += C * (first >> (64 * n)) + O * (other >> (64 * n))
    return words(first, n), words(other, n), told


def more(z, x, by, carry):
    n = len(z)
    exact = whole(z) + whole(x) * by + carry
    return words(exact, n), [], exact >> (64 * n)


def product(y, x):
    return words(whole(x) * whole(y), 2 * len(x)), [], 0


def left(z, by, bits):
    n = len(z)
    text = f"{whole(z):0{64 * n}b}" + f"{bits:064b}"[:by]
    return words(int(text[by:], 2), n), [], int("0" + text[:by], 2)


def right(z, by, bits):
    n = len(z)
    text = f"{bits:064b}"[64 - by:] + f"{whole(z):0{64 * n}b}"
    went = text[64 * n:] + "0" * (64 - by)
    return words(int(text[:64 * n], 2), n), [], int(went, 2)


def digits(low, high, x, y):
    pairs = [divmod((one % 2**52) * (other % 2**52), 2**52) for one, other in zip(x, y)]
    lows = [(value + pair[1]) % 2**64 for value, pair in zip(low, pairs)]
    highs = [(value + pair[0]) % 2**64 for value, pair in zip(high, pairs)]
    return lows, highs, 0


def answer(told):
    """The list that a call gives back for it."""
    if told is None:
        return [6]
    z, y, word = told
    return [0, len(z)] + z + [len(y)] + y + [1, word]
