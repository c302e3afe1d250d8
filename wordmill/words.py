"""Words cut to a width, with and without a sign."""


def cut(value, k):
    return value & ((1 << k) - 1)


def signed(value, k):
    """The signed number that k bits stand for."""
    if value >> (k - 1):
        return value - (1 << k)
    return value


def bit(holds):
    """Answers hold whole numbers only, so no truth value may get into them."""
    return 1 if holds else 0


def even_ones(byte):
    """1 if a byte has an even number of ones."""
    half = byte ^ (byte >> 4)
    pair = half ^ (half >> 2)
    return 1 - ((pair ^ (pair >> 1)) & 1)


def turned_left(value, n, k):
    """k bits turned left by n, from 0 to k; by k - n it is right by n."""
    return cut((value << n) | (value >> (k - n)), k)


def turned_bytes(value, k):
    """k bits, their bytes turned round."""
    result = 0
    for place in range(0, k, 8):
        result = (result << 8) | ((value >> place) & 255)
    return result
