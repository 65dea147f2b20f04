"""The convolutional code: rows of bits, their coded forms, and the nearest row.

A state is the last four bits of a row as a number from 0 to 15, the newest bit
the highest: 8 * u(k - 1) + 4 * u(k - 2) + 2 * u(k - 3) + u(k - 4).
"""

from mobileair.errors import BadBits


def convolve(bits):
    """Return the coded form of a row, a list of twice as many bits."""
    row = [0] * 4 + list(bits)
    coded = []
    for at in range(4, len(row)):
        even = row[at] ^ row[at - 3] ^ row[at - 4]
        coded.append(even)
        coded.append(even ^ row[at - 1])
    return coded


def nearest(coded):
    """Return the nearest row that ends in four zeros, and its distance from the bits."""
    if len(coded) % 2 != 0 or len(coded) < 8:
        raise BadBits()
    misses = _misses_of_zero(coded)
    costs = _costs_to_end(misses)
    return _first_cheapest(misses, costs), costs[0][0]


def _misses_of_zero(coded):
    """Return, for each pair of the coded bits, how far it is from that of a bit 0, by state.

    A bit 1 turns both bits of a pair, so its distance is 2 minus that of the bit 0.
    """
    by_pair = [[_misses_of_pair(even, odd) for odd in range(2)] for even in range(2)]
    return [by_pair[even][odd] for even, odd in zip(coded[::2], coded[1::2])]


def _misses_of_pair(even, odd):
    """Return, by state, the distance of a pair from the coded form of a bit 0."""
    found = []
    for state in range(16):
        wanted = (state ^ (state >> 1)) & 1
        found.append((even ^ wanted) + (odd ^ wanted ^ (state >> 3)))
    return found


def _costs_to_end(misses):
    """Return, for each place and behind the last one, the least distance from there on, by state."""
    # More than any distance, so a way that does not end in four zeros is never taken.
    far = 2 * len(misses) + 1
    costs = [[0] + [far] * 15]
    for missed in reversed(misses):
        costs.append(_costs_before(costs[-1], missed))
    costs.reverse()
    return costs


def _costs_before(later, missed):
    """Return the least distances one place earlier."""
    return [
        min(later[state >> 1] + missed[state], later[8 + (state >> 1)] + 2 - missed[state])
        for state in range(16)
    ]


def _first_cheapest(misses, costs):
    """Return the row of the least distance, by state 0 at the beginning.

    It takes 0 wherever that is no dearer: so of several equally near rows, it is
    the one with 0 in the first place in which it differs from another.
    """
    row = []
    state = 0
    for at, missed in enumerate(misses):
        half = state >> 1
        bit = 0 if costs[at + 1][half] + missed[state] == costs[at][state] else 1
        row.append(bit)
        state = 8 * bit + half
    return row
