"""Septets packed into octets."""

from mobileair.bits import bits_number, bits_octets, octet_bits
from mobileair.errors import BadText


def pack(row, start):
    """Return the tuple of the octets into which the septets are packed from the bit start on."""
    bits = [0] * start + [(septet >> place) & 1 for septet in row for place in range(7)]
    return bits_octets(bits + [0] * (-len(bits) % 8))


def unpack(octets, start, count):
    """Return the list of the count septets that are packed from the bit start on."""
    bits = octet_bits(octets)
    end = start + 7 * count
    if len(bits) < end:
        raise BadText()
    return [bits_number(bits[at:at + 7][::-1]) for at in range(start, end, 7)]
