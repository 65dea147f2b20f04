"""Rows of bits: the bits of numbers and of octets, and how rows differ."""

from mobileair.errors import BadBits, OutOfRange


def number_bits(number, count):
    """Return the list of the count bits of a number, the highest bit first."""
    if number < 0 or number.bit_length() > count:
        raise OutOfRange("number")
    return [(number >> place) & 1 for place in range(count - 1, -1, -1)]


def bits_number(bits):
    """Return the number that the bits write, the highest bit first."""
    number = 0
    for bit in bits:
        number = 2 * number + bit
    return number


def octet_bits(octets):
    """Return the list of the bits of the octets, the lowest bit of each first."""
    return [(octet >> place) & 1 for octet in octets for place in range(8)]


def bits_octets(bits):
    """Return the tuple of the octets that the bits write, the lowest bit of each first."""
    if len(bits) % 8 != 0:
        raise BadBits()
    return tuple([bits_number(bits[at:at + 8][::-1]) for at in range(0, len(bits), 8)])


def flipped(bits, places):
    """Return a copy of the bits, flipped at each of the places, once for each time it stands there."""
    row = list(bits)
    for place in places:
        row[place] = 1 - row[place]
    return row


def distance(first, second):
    """Return the number of places in which two rows of the same length differ."""
    if len(first) != len(second):
        raise BadBits()
    return sum([one ^ other for one, other in zip(first, second)])
