"""Frames of speech, coded and spread over eight halves."""

from mobileair.errors import BadBits
from mobileair.polynomials import SPEECH_DIVISOR, is_right, parity
from mobileair.trellis import convolve, nearest


def code_speech(bits):
    """Return the list of the eight halves of a frame, each a list of 57 bits."""
    if len(bits) != 260:
        raise BadBits()
    check = parity(bits[:50], SPEECH_DIVISOR)
    row = bits[0:182:2] + check + bits[1:182:2][::-1] + [0] * 4
    halves = [[0] * 57 for _ in range(8)]
    for at, bit in enumerate(convolve(row) + bits[182:]):
        halves[at % 8][_place(at)] = bit
    return halves


def read_speech(halves):
    """Return the 260 bits, the cost and whether the frame is good."""
    coded = [halves[at % 8][_place(at)] for at in range(456)]
    row, cost = nearest(coded[:378])
    bits = []
    for at in range(91):
        bits.append(row[at])
        bits.append(row[184 - at])
    good = is_right(bits[:50], row[91:94], SPEECH_DIVISOR)
    return bits + coded[378:], cost, good


def _place(at):
    """Return the place of a coded bit in its half."""
    return (49 * at) % 57
