"""Short bursts: the synchronizing burst and the access burst."""

from mobileair.bits import bits_number, number_bits
from mobileair.checks import check_range
from mobileair.errors import BadBits
from mobileair.polynomials import ACCESS_DIVISOR, SYNC_DIVISOR, is_right, parity
from mobileair.trellis import convolve, nearest

MOST_COLOUR = 63
MOST_REDUCED = 524287
MOST_CONTENT = 255


def code_sync(colour, reduced):
    """Return the 78 bits of the synchronizing burst."""
    check_range(colour, 0, MOST_COLOUR, "colour")
    check_range(reduced, 0, MOST_REDUCED, "reduced")
    content = number_bits(colour, 6) + number_bits(reduced, 19)
    return convolve(content + parity(content, SYNC_DIVISOR) + [0] * 4)


def read_sync(bits):
    """Return the colour, the reduced number, the cost and whether the burst is good."""
    if len(bits) != 78:
        raise BadBits()
    row, cost = nearest(bits)
    good = is_right(row[:25], row[25:35], SYNC_DIVISOR)
    return bits_number(row[:6]), bits_number(row[6:25]), cost, good


def code_access(colour, content):
    """Return the 36 bits of the access burst."""
    check_range(colour, 0, MOST_COLOUR, "colour")
    check_range(content, 0, MOST_CONTENT, "content")
    row = number_bits(content, 8)
    return convolve(row + _coloured(parity(row, ACCESS_DIVISOR), colour) + [0] * 4)


def read_access(bits, colour):
    """Return the content, the cost and whether the burst is good under the colour."""
    check_range(colour, 0, MOST_COLOUR, "colour")
    if len(bits) != 36:
        raise BadBits()
    row, cost = nearest(bits)
    good = is_right(row[:8], _coloured(row[8:14], colour), ACCESS_DIVISOR)
    return bits_number(row[:8]), cost, good


def _coloured(bits, colour):
    """Return the six bits, flipped where the bit of the colour is 1; twice gives them back."""
    return [bit ^ turn for bit, turn in zip(bits, number_bits(colour, 6))]
