"""Packing (point 39)."""

import random
import unittest

from mobileair.errors import BadText
from mobileair.packing import pack, unpack
from tests.helpers import ProgramTest, random_octets


def packed_number(row, start):
    """All bits of the octets as one number, bit 0 the lowest."""
    return sum(septet << (start + 7 * at) for at, septet in enumerate(row))


def least_count(row, start):
    count = 0
    while 8 * count < start + 7 * len(row):
        count += 1
    return count


def some_rows(count):
    chance = random.Random(count)
    return [[0] * count, [127] * count, [chance.randrange(128) for _ in range(count)]]


class PackTest(ProgramTest):
    def test_known_octets(self):
        self.assertEqual(pack([1, 2], 0), (1, 1))
        self.assertEqual(pack([], 0), ())
        self.assertEqual(pack([127], 0), (127,))
        self.assertEqual(pack([127], 1), (254,))
        self.assertEqual(pack([127], 2), (252, 1))
        self.assertEqual(pack([64], 7), (0, 32))
        self.assertEqual(pack([104, 101, 108, 108, 111], 0), (232, 50, 155, 253, 6))
        self.assertEqual(pack([127] * 8, 0), (255,) * 7)
        self.assertEqual(pack([127] * 8, 1), (254,) + (255,) * 6 + (1,))

    def test_no_septets(self):
        self.assertEqual(pack([], 0), ())
        for start in range(1, 8):
            self.assertEqual(pack([], start), (0,))

    def test_each_count_from_each_first_bit(self):
        for count in range(162):
            for row in some_rows(count):
                kept = list(row)
                for start in range(8):
                    octets = pack(row, start)
                    self.assert_octets(octets)
                    self.assertEqual(len(octets), least_count(row, start))
                    self.assertEqual(int.from_bytes(bytes(octets), "little"), packed_number(row, start))
                self.assertEqual(row, kept)


class UnpackTest(ProgramTest):
    def test_known_septets(self):
        self.assertEqual(unpack((1, 1), 0, 2), [1, 2])
        self.assertEqual(unpack((232, 50, 155, 253, 6), 0, 5), [104, 101, 108, 108, 111])
        self.assertEqual(unpack((), 0, 0), [])
        self.assertEqual(unpack((255,), 0, 1), [127])
        self.assertEqual(unpack((128, 1), 7, 1), [3])

    def test_what_was_packed_and_fewer(self):
        for count in range(162):
            for row in some_rows(count):
                for start in range(8):
                    octets = pack(row, start)
                    self.assertEqual(unpack(octets, start, count), row)
                    for fewer in {0, 1, count // 2, count - 1}:
                        if 0 <= fewer <= count:
                            self.assertEqual(unpack(octets, start, fewer), row[:fewer])

    def test_any_octets(self):
        chance = random.Random(39)
        for count in range(40):
            octets = random_octets(chance, count)
            number = int.from_bytes(bytes(octets), "little")
            for start in range(8):
                most = (8 * count - start) // 7
                wanted = [(number >> (start + 7 * at)) & 127 for at in range(most)]
                if most >= 0:
                    found = unpack(octets, start, most)
                    self.assertIs(type(found), list)
                    self.assertEqual(found, wanted)
                self.assert_bare(BadText, unpack, octets, start, most + 1)
                self.assert_bare(BadText, unpack, octets, start, most + 2)
                self.assert_bare(BadText, unpack, octets, start, most + 50)

    def test_bits_without_an_octet(self):
        self.assert_bare(BadText, unpack, (), 0, 1)
        self.assert_bare(BadText, unpack, (), 1, 0)
        self.assert_bare(BadText, unpack, (255,), 2, 1)
        self.assertEqual(unpack((255,), 1, 1), [127])
        self.assertEqual(unpack((255,), 7, 0), [])
        self.assertEqual(unpack((255,) * 7, 0, 8), [127] * 8)
        self.assert_bare(BadText, unpack, (255,) * 7, 1, 8)

    def test_a_returned_row_is_free(self):
        unpack((1, 1), 0, 2).clear()
        self.assertEqual(unpack((1, 1), 0, 2), [1, 2])


if __name__ == "__main__":
    unittest.main()
