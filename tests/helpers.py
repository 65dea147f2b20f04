"""What several test files share: rows to try, plain references, and checks of errors."""

import random
import unittest

from mobileair.errors import MobileError, NoSuch, OutOfRange


class ProgramTest(unittest.TestCase):
    def assert_raises_what(self, kind, what, function, *arguments):
        with self.assertRaises(kind) as caught:
            function(*arguments)
        self.assertIs(type(caught.exception), kind)
        self.assertEqual(caught.exception.what, what)

    def assert_out_of_range(self, what, function, *arguments):
        self.assert_raises_what(OutOfRange, what, function, *arguments)

    def assert_bare(self, kind, function, *arguments):
        """The error is of this very class and was raised without arguments."""
        with self.assertRaises(MobileError) as caught:
            function(*arguments)
        self.assertIs(type(caught.exception), kind)
        self.assertEqual(caught.exception.args, ())

    def assert_no_such(self, what, number, function, *arguments):
        with self.assertRaises(NoSuch) as caught:
            function(*arguments)
        self.assertIs(type(caught.exception), NoSuch)
        self.assertEqual((caught.exception.what, caught.exception.number), (what, number))

    def assert_octets(self, octets):
        self.assertIs(type(octets), tuple)
        self.assertTrue(all(type(octet) is int and 0 <= octet <= 255 for octet in octets))

    def assert_bits(self, row, count):
        self.assertIs(type(row), list)
        self.assertEqual(len(row), count)
        self.assertTrue(all(type(bit) is int and bit in (0, 1) for bit in row))


def changed_rows(octets):
    """All rows that differ from the octets at one place, have one less or one more, or lack an end."""
    rows = []
    for place in range(len(octets)):
        rows.extend(octets[:place] + (octet,) + octets[place + 1:] for octet in range(256) if octet != octets[place])
        rows.append(octets[:place] + octets[place + 1:])
        rows.append(octets[:place])
    for place in range(len(octets) + 1):
        rows.extend(octets[:place] + (octet,) + octets[place:] for octet in (0, 1, 15, 16, 33, 129, 240, 241, 255))
    return rows


def random_octets(chance, count):
    return tuple(chance.randrange(256) for _ in range(count))


def random_bits(chance, count):
    return [chance.randrange(2) for _ in range(count)]


def all_rows(count):
    """All rows of count bits, in ascending order of the numbers that they write."""
    return [[(number >> (count - 1 - at)) & 1 for at in range(count)] for number in range(2 ** count)]


def turned(row, places):
    """A copy of the row with the bits at these places flipped."""
    return [1 - bit if at in places else bit for at, bit in enumerate(row)]


def some_places(seed, length, count, times):
    chance = random.Random(seed)
    return [sorted(chance.sample(range(length), count)) for _ in range(times)]


def plain_code(row):
    """The coded form, straight from the formula of point 8."""
    def u(at):
        return row[at] if at >= 0 else 0
    coded = []
    for k in range(len(row)):
        coded.append((u(k) + u(k - 3) + u(k - 4)) % 2)
        coded.append((u(k) + u(k - 1) + u(k - 3) + u(k - 4)) % 2)
    return coded


def plain_nearest(coded):
    """The nearest row by a look at all rows one by one; the first one in ascending order counts."""
    best = None
    for start in all_rows(len(coded) // 2 - 4):
        row = start + [0, 0, 0, 0]
        cost = sum(1 for one, other in zip(plain_code(row), coded) if one != other)
        if best is None or cost < best[1]:
            best = (row, cost)
    return best


def step_nearest(coded):
    """The nearest row by keeping, for each last four bits, the least pair of cost and whole row."""
    kept = {(0, 0, 0, 0): (0, [])}
    for k in range(len(coded) // 2):
        following = {}
        for last, (cost, row) in kept.items():
            for bit in (0, 1):
                pair = plain_code([*last, bit])[-2:]
                worth = cost + (pair[0] != coded[2 * k]) + (pair[1] != coded[2 * k + 1])
                key = (*last[1:], bit)
                if key not in following or (worth, row + [bit]) < following[key]:
                    following[key] = (worth, row + [bit])
        kept = following
    cost, row = kept[(0, 0, 0, 0)]
    return row, cost


def plain_remainder(bits, powers):
    """The remainder by polynomials as sets of powers, as one divides by hand."""
    left = {len(bits) - 1 - at for at, bit in enumerate(bits) if bit}
    most = max(powers)
    while left and max(left) >= most:
        shift = max(left) - most
        left = left ^ {power + shift for power in powers}
    return [1 if power in left else 0 for power in range(most - 1, -1, -1)]


def plain_parity(bits, powers):
    """The parity that leaves 1 in all places."""
    most = max(powers)
    zeros = plain_remainder(bits + [0] * most, powers)
    return [0 if bit else 1 for bit in zeros]


BLOCK_POWERS = (40, 26, 23, 17, 3, 0)
SYNC_POWERS = (10, 8, 6, 5, 4, 2, 0)
ACCESS_POWERS = (6, 5, 3, 2, 1, 0)
SPEECH_POWERS = (3, 1, 0)
