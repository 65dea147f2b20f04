"""Blocks (points 11 and 12)."""

import random
import unittest

from mobileair.bursts import code_block, read_block
from tests.helpers import (
    BLOCK_POWERS, ProgramTest, plain_code, plain_parity, random_bits, some_places, step_nearest, turned,
)


def lowest_first(octets):
    return [int(sign) for octet in octets for sign in format(octet, "08b")[::-1]]


def octets_of(bits):
    return tuple(sum(bits[8 * at + place] << place for place in range(8)) for at in range(len(bits) // 8))


def place_of(k):
    return k % 4, 2 * ((49 * k) % 57) + (k % 8) // 4


def laid_out(coded):
    bursts = [[None] * 114 for _ in range(4)]
    for k in range(456):
        burst, place = place_of(k)
        bursts[burst][place] = coded[k]
    return bursts


def coded_block(content, check):
    return plain_code(content + check + [0, 0, 0, 0])


def mixed_blocks():
    chance = random.Random(21)
    fixed = [(0,) * 23, (255,) * 23, tuple(range(23)), (43,) * 23, (1,) + (0,) * 22, (0,) * 22 + (128,)]
    return fixed + [tuple(chance.randrange(256) for _ in range(23)) for _ in range(6)]


class CodeBlockTest(ProgramTest):
    def test_four_bursts_of_114_bits(self):
        for octets in mixed_blocks():
            bursts = code_block(octets)
            self.assertIs(type(bursts), list)
            self.assertEqual(len(bursts), 4)
            for burst in bursts:
                self.assert_bits(burst, 114)

    def test_each_bit_of_the_coded_form_lies_at_its_place(self):
        self.assertEqual(len({place_of(k) for k in range(456)}), 456)
        for octets in mixed_blocks():
            content = lowest_first(octets)
            coded = coded_block(content, plain_parity(content, BLOCK_POWERS))
            bursts = code_block(octets)
            for k in range(456):
                burst, place = place_of(k)
                self.assertEqual(bursts[burst][place], coded[k], k)

    def test_returned_bursts_are_free(self):
        octets = tuple(range(23))
        kept = code_block(octets)
        changed = code_block(octets)
        for burst in changed:
            burst[0] = 1 - burst[0]
        changed.pop()
        self.assertEqual(code_block(octets), kept)


class ReadBlockTest(ProgramTest):
    def test_what_was_coded(self):
        for octets in mixed_blocks():
            answer = read_block(code_block(octets))
            self.assertEqual(answer, (octets, 0, True))
            self.assertEqual([type(part) for part in answer], [tuple, int, bool])

    def test_up_to_three_flipped_bits(self):
        chance = random.Random(22)
        for flips in (1, 2, 3):
            for places in some_places(flips, 456, flips, 25):
                octets = tuple(chance.randrange(256) for _ in range(23))
                bursts = code_block(octets)
                for place in places:
                    bursts[place // 114][place % 114] ^= 1
                self.assertEqual(read_block(bursts), (octets, flips, True))

    def test_each_single_flip(self):
        octets = tuple(range(200, 223))
        for place in range(456):
            bursts = code_block(octets)
            bursts[place // 114][place % 114] ^= 1
            self.assertEqual(read_block(bursts), (octets, 1, True))

    def test_a_wrong_parity(self):
        for octets in mixed_blocks():
            content = lowest_first(octets)
            check = plain_parity(content, BLOCK_POWERS)
            for places in ([0], [39], [20], [0, 39], range(40)):
                bursts = laid_out(coded_block(content, turned(check, places)))
                self.assertEqual(read_block(bursts), (octets, 0, False))

    def test_zeros_have_a_wrong_parity(self):
        self.assertEqual(read_block([[0] * 114 for _ in range(4)]), ((0,) * 23, 0, False))

    def test_any_other_bits(self):
        chance = random.Random(23)
        for _ in range(6):
            coded = random_bits(chance, 456)
            row, cost = step_nearest(coded)
            octets = octets_of(row[:184])
            good = plain_parity(row[:184], BLOCK_POWERS) == row[184:224]
            self.assertGreater(cost, 3)
            self.assertEqual(read_block(laid_out(coded)), (octets, cost, good))

    def test_the_bursts_stay(self):
        chance = random.Random(24)
        bursts = [random_bits(chance, 114) for _ in range(4)]
        kept = [list(burst) for burst in bursts]
        read_block(bursts)
        self.assertEqual(bursts, kept)


if __name__ == "__main__":
    unittest.main()
