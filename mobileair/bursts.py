"""Blocks of 23 octets, coded and spread over four bursts."""

from mobileair.bits import bits_octets, octet_bits
from mobileair.polynomials import BLOCK_DIVISOR, is_right, parity
from mobileair.trellis import convolve, nearest


def code_block(octets):
    """Return the list of the four bursts of a block, each a list of 114 bits."""
    content = octet_bits(octets)
    coded = convolve(content + parity(content, BLOCK_DIVISOR) + [0] * 4)
    bursts = [[0] * 114 for _ in range(4)]
    for at, bit in enumerate(coded):
        bursts[at % 4][_place(at)] = bit
    return bursts


def read_block(bursts):
    """Return the octets, the cost and whether the block is good."""
    row, cost = nearest([bursts[at % 4][_place(at)] for at in range(456)])
    content = row[:184]
    return bits_octets(content), cost, is_right(content, row[184:224], BLOCK_DIVISOR)


def _place(at):
    """Return the place of a coded bit in its burst."""
    return 2 * ((49 * at) % 57) + (at % 8) // 4
