"""The work on rows of words, the lowest first."""

from wordmill.words import bit, cut


def add_row(n, z, x, flags):
    """z + x + C as a new row of n words; flags are changed in place."""
    row = []
    carry = flags.carry
    for place in range(n):
        whole = z[place] + x[place] + carry
        row.append(cut(whole, 64))
        carry = whole >> 64
    # like signs that give the other sign: only then is the signed sum another
    turned = (z[n - 1] ^ row[n - 1]) & (x[n - 1] ^ row[n - 1])
    flags.tell_rest(carry, turned >> 63, 0)
    tell_row(n, row, flags)
    return row


def tell_row(n, row, flags):
    """S and Z by the whole row."""
    flags.sign = row[n - 1] >> 63
    flags.zero = bit(not any(row))
    flags.parity = 0
