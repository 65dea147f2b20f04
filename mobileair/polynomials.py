"""Parity: rows of bits as polynomials over 0 and 1, and their remainders."""

from mobileair.bits import bits_number, number_bits

# A row of bits does not show its powers, so those that have a 1 stand above each divisor.

# 40, 26, 23, 17, 3, 0
BLOCK_DIVISOR = (
    1,
    0, 0, 0, 0, 0, 0, 0, 0, 0, 0,
    0, 0, 0, 1, 0, 0, 1, 0, 0, 0,
    0, 0, 1, 0, 0, 0, 0, 0, 0, 0,
    0, 0, 0, 0, 0, 0, 1, 0, 0, 1,
)

# 10, 8, 6, 5, 4, 2, 0
SYNC_DIVISOR = (1, 0, 1, 0, 1, 1, 1, 0, 1, 0, 1)

# 6, 5, 3, 2, 1, 0
ACCESS_DIVISOR = (1, 1, 0, 1, 1, 1, 1)

# 3, 1, 0
SPEECH_DIVISOR = (1, 0, 1, 1)


def remainder(bits, divisor):
    """Return the list of the m bits that the division by a divisor of m + 1 bits leaves."""
    power = len(divisor) - 1
    taken = bits_number(divisor)
    left = 0
    for bit in bits:
        left = 2 * left + bit
        if left >> power != 0:
            left = left ^ taken
    return number_bits(left, power)


def parity(content, divisor):
    """Return the bits behind which the content leaves the remainder 1 in all places."""
    places = len(divisor) - 1
    # The remainder is a sum, and a row of m bits is its own remainder: what is
    # missing to 1 in each place behind m zeros is the parity itself.
    return [1 - bit for bit in remainder(list(content) + [0] * places, divisor)]


def is_right(content, found, divisor):
    """Return True if the list found is the parity of the content, otherwise False."""
    return found == parity(content, divisor)
