"""Short bursts (points 13 to 15)."""

import itertools
import random
import unittest

from mobileair.errors import BadBits
from mobileair.shorts import code_access, code_sync, read_access, read_sync
from tests.helpers import (
    ACCESS_POWERS, SYNC_POWERS, ProgramTest, plain_code, plain_parity, random_bits, some_places, step_nearest,
    turned,
)


def written(number, count):
    return [int(sign) for sign in format(number, f"0{count}b")]


def number_of(bits):
    return int("".join(map(str, bits)), 2)


def sync_content(colour, reduced):
    return written(colour, 6) + written(reduced, 19)


def coloured(check, colour):
    return [one ^ other for one, other in zip(check, written(colour, 6))]


SYNC_PAIRS = [(0, 0), (63, 524287), (0, 524287), (63, 0), (1, 1), (32, 262144), (37, 123456), (20, 99999)]
ACCESS_PAIRS = [(0, 0), (63, 255), (0, 255), (63, 0), (1, 1), (32, 128), (37, 200), (20, 99)]


class CodeSyncTest(ProgramTest):
    def test_coded_form(self):
        for colour, reduced in SYNC_PAIRS:
            content = sync_content(colour, reduced)
            wanted = plain_code(content + plain_parity(content, SYNC_POWERS) + [0, 0, 0, 0])
            burst = code_sync(colour, reduced)
            self.assert_bits(burst, 78)
            self.assertEqual(burst, wanted)

    def test_out_of_range(self):
        for colour in (-1, 64, 65, -64, 1000):
            self.assert_out_of_range("colour", code_sync, colour, 0)
            self.assert_out_of_range("colour", code_sync, colour, 524287)
            self.assert_out_of_range("colour", code_sync, colour, -1)
            self.assert_out_of_range("colour", code_sync, colour, 524288)
        for reduced in (-1, 524288, 524289, -524288, 2 ** 30):
            self.assert_out_of_range("reduced", code_sync, 0, reduced)
            self.assert_out_of_range("reduced", code_sync, 63, reduced)

    def test_a_returned_burst_is_free(self):
        kept = code_sync(7, 8)
        code_sync(7, 8).pop()
        self.assertEqual(code_sync(7, 8), kept)


class ReadSyncTest(ProgramTest):
    def test_what_was_coded(self):
        for colour, reduced in SYNC_PAIRS:
            answer = read_sync(code_sync(colour, reduced))
            self.assertEqual(answer, (colour, reduced, 0, True))
            self.assertEqual([type(part) for part in answer], [int, int, int, bool])

    def test_up_to_three_flips(self):
        for colour, reduced in SYNC_PAIRS:
            burst = code_sync(colour, reduced)
            for flips in (1, 2, 3):
                for places in some_places(flips + colour, 78, flips, 20):
                    self.assertEqual(read_sync(turned(burst, places)), (colour, reduced, flips, True))
        burst = code_sync(41, 314159)
        for place in range(78):
            self.assertEqual(read_sync(turned(burst, [place])), (41, 314159, 1, True))

    def test_a_wrong_parity(self):
        for colour, reduced in SYNC_PAIRS:
            content = sync_content(colour, reduced)
            check = plain_parity(content, SYNC_POWERS)
            for places in [[place] for place in range(10)] + [range(10)]:
                burst = plain_code(content + turned(check, places) + [0, 0, 0, 0])
                self.assertEqual(read_sync(burst), (colour, reduced, 0, False))

    def test_any_other_bits(self):
        chance = random.Random(31)
        for _ in range(40):
            bits = random_bits(chance, 78)
            kept = list(bits)
            row, cost = step_nearest(bits)
            good = plain_parity(row[:25], SYNC_POWERS) == row[25:35]
            self.assertEqual(read_sync(bits), (number_of(row[:6]), number_of(row[6:25]), cost, good))
            self.assertEqual(bits, kept)

    def test_another_count_of_bits(self):
        for count in (0, 1, 7, 8, 36, 76, 77, 79, 80, 456):
            self.assert_bare(BadBits, read_sync, [0] * count)


class CodeAccessTest(ProgramTest):
    def test_coded_form(self):
        for colour, content in ACCESS_PAIRS + [(9, content) for content in range(256)]:
            row = written(content, 8)
            check = coloured(plain_parity(row, ACCESS_POWERS), colour)
            burst = code_access(colour, content)
            self.assert_bits(burst, 36)
            self.assertEqual(burst, plain_code(row + check + [0, 0, 0, 0]))

    def test_out_of_range(self):
        for colour in (-1, 64, 65, -64, 1000):
            self.assert_out_of_range("colour", code_access, colour, 0)
            self.assert_out_of_range("colour", code_access, colour, 255)
            self.assert_out_of_range("colour", code_access, colour, -1)
            self.assert_out_of_range("colour", code_access, colour, 256)
        for content in (-1, 256, 257, -256, 2 ** 30):
            self.assert_out_of_range("content", code_access, 0, content)
            self.assert_out_of_range("content", code_access, 63, content)


class ReadAccessTest(ProgramTest):
    def test_what_was_coded(self):
        for colour, content in itertools.product(range(64), (0, 1, 90, 128, 255)):
            answer = read_access(code_access(colour, content), colour)
            self.assertEqual(answer, (content, 0, True))
            self.assertEqual([type(part) for part in answer], [int, int, bool])

    def test_up_to_three_flips(self):
        for colour, content in ACCESS_PAIRS:
            burst = code_access(colour, content)
            for flips in (1, 2, 3):
                for places in some_places(flips + colour, 36, flips, 40):
                    self.assertEqual(read_access(turned(burst, places), colour), (content, flips, True))
        for place in range(36):
            self.assertEqual(read_access(turned(code_access(41, 99), [place]), 41), (99, 1, True))

    def test_another_colour_is_not_good(self):
        for colour, other in itertools.product(range(64), range(64)):
            self.assertEqual(read_access(code_access(colour, 77), other), (77, 0, colour == other))

    def test_a_wrong_parity(self):
        for colour, content in ACCESS_PAIRS:
            row = written(content, 8)
            check = coloured(plain_parity(row, ACCESS_POWERS), colour)
            for places in [[place] for place in range(6)] + [range(6)]:
                burst = plain_code(row + turned(check, places) + [0, 0, 0, 0])
                self.assertEqual(read_access(burst, colour), (content, 0, False))

    def test_any_other_bits(self):
        chance = random.Random(32)
        for _ in range(60):
            bits, colour = random_bits(chance, 36), chance.randrange(64)
            kept = list(bits)
            row, cost = step_nearest(bits)
            good = coloured(plain_parity(row[:8], ACCESS_POWERS), colour) == row[8:14]
            self.assertEqual(read_access(bits, colour), (number_of(row[:8]), cost, good))
            self.assertEqual(bits, kept)

    def test_the_colour_is_checked_first(self):
        for colour in (-1, 64, 1000):
            self.assert_out_of_range("colour", read_access, [0] * 36, colour)
            self.assert_out_of_range("colour", read_access, [0] * 35, colour)
            self.assert_out_of_range("colour", read_access, [], colour)

    def test_another_count_of_bits(self):
        for count in (0, 1, 7, 8, 34, 35, 37, 38, 78):
            self.assert_bare(BadBits, read_access, [0] * count, 0)
            self.assert_bare(BadBits, read_access, [0] * count, 63)


if __name__ == "__main__":
    unittest.main()
