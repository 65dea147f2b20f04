"""Rows of bits (points 1 to 3)."""

import random
import unittest

from mobileair.bits import bits_number, bits_octets, distance, flipped, number_bits, octet_bits
from mobileair.errors import BadBits
from tests.helpers import ProgramTest, random_bits


class NumbersTest(ProgramTest):
    def test_highest_bit_first(self):
        self.assertEqual(number_bits(6, 3), [1, 1, 0])
        self.assertEqual(number_bits(1, 4), [0, 0, 0, 1])
        self.assertEqual(number_bits(8, 4), [1, 0, 0, 0])
        self.assertEqual(bits_number([1, 1, 0]), 6)
        self.assertEqual(bits_number([0, 0, 0, 1]), 1)

    def test_no_bits(self):
        self.assertEqual(number_bits(0, 0), [])
        self.assertEqual(bits_number([]), 0)

    def test_greatest_number_of_each_count(self):
        for count in range(65):
            self.assertEqual(number_bits(2 ** count - 1, count), [1] * count)
            self.assertEqual(number_bits(0, count), [0] * count)
            self.assertEqual(bits_number([1] * count), 2 ** count - 1)

    def test_there_and_back(self):
        for count in range(9):
            for number in range(2 ** count):
                row = number_bits(number, count)
                self.assert_bits(row, count)
                self.assertEqual(bits_number(row), number)
        chance = random.Random(1)
        for _ in range(200):
            number = chance.randrange(2 ** 64)
            self.assertEqual(number_bits(number, 64), [int(sign) for sign in format(number, "064b")])
            self.assertEqual(bits_number(number_bits(number, 64)), number)

    def test_numbers_that_cannot_be_written(self):
        self.assert_out_of_range("number", number_bits, 1, 0)
        self.assert_out_of_range("number", number_bits, 2 ** 64, 64)
        for count in (0, 1, 7, 64):
            for number in (-1, -2 ** count, -2 ** 70, 2 ** count, 2 ** count + 1, 2 ** 70):
                self.assert_out_of_range("number", number_bits, number, count)

    def test_a_returned_row_is_free(self):
        number_bits(5, 3).append(7)
        self.assertEqual(number_bits(5, 3), [1, 0, 1])

    def test_the_row_stays(self):
        row = [1, 0, 1]
        bits_number(row)
        self.assertEqual(row, [1, 0, 1])


class OctetsTest(ProgramTest):
    def test_lowest_bit_first(self):
        self.assertEqual(octet_bits((1, 128)), [1, 0, 0, 0, 0, 0, 0, 0, 0, 0, 0, 0, 0, 0, 0, 1])
        self.assertEqual(octet_bits((6,)), [0, 1, 1, 0, 0, 0, 0, 0])
        self.assertEqual(bits_octets([0, 1, 1, 0, 0, 0, 0, 0]), (6,))

    def test_no_octets(self):
        self.assertEqual(octet_bits(()), [])
        self.assertEqual(bits_octets([]), ())

    def test_there_and_back(self):
        for octet in range(256):
            row = octet_bits((octet,))
            self.assert_bits(row, 8)
            self.assertEqual(row, number_bits(octet, 8)[::-1])
            self.assertEqual(bits_octets(row), (octet,))
        octets = tuple(range(256))
        self.assertEqual(bits_octets(octet_bits(octets)), octets)
        self.assertIs(type(bits_octets(octet_bits(octets))), tuple)

    def test_counts_that_are_no_multiple_of_eight(self):
        for count in range(1, 40):
            if count % 8:
                self.assert_bare(BadBits, bits_octets, [0] * count)

    def test_the_arguments_stay(self):
        row = octet_bits((3, 200))
        kept = list(row)
        bits_octets(row)
        self.assertEqual(row, kept)
        row.append(1)
        self.assertEqual(octet_bits((3, 200)), kept)


class FlippedTest(ProgramTest):
    def test_places(self):
        row = [0, 1, 1, 0]
        self.assertEqual(flipped(row, []), [0, 1, 1, 0])
        self.assertEqual(flipped(row, [1]), [0, 0, 1, 0])
        self.assertEqual(flipped(row, [0, 3]), [1, 1, 1, 1])
        self.assertEqual(flipped(row, [3, 2, 1, 0]), [1, 0, 0, 1])
        self.assertEqual(flipped([], []), [])

    def test_the_same_place_several_times(self):
        row = [0, 1, 1, 0]
        self.assertEqual(flipped(row, [2, 2]), [0, 1, 1, 0])
        self.assertEqual(flipped(row, [2, 0, 2, 2]), [1, 1, 0, 0])

    def test_the_arguments_stay_and_a_copy_is_returned(self):
        row, places = [0, 1, 1, 0], [1, 1, 3]
        copy = flipped(row, places)
        self.assertEqual((row, places), ([0, 1, 1, 0], [1, 1, 3]))
        copy[0] = 9
        self.assertEqual(row, [0, 1, 1, 0])
        self.assertIsNot(flipped(row, []), row)


class DistanceTest(ProgramTest):
    def test_equal_unlike_and_empty_rows(self):
        self.assertEqual(distance([], []), 0)
        self.assertEqual(distance([0, 1, 1], [0, 1, 1]), 0)
        self.assertEqual(distance([0, 1, 1], [1, 0, 0]), 3)
        self.assertEqual(distance([0, 1, 1, 0], [0, 0, 1, 1]), 2)
        self.assertEqual(distance([0] * 456, [1] * 456), 456)

    def test_flipped_bits_are_counted(self):
        chance = random.Random(2)
        for count in range(30):
            row = random_bits(chance, 60)
            other = flipped(row, chance.sample(range(60), count))
            self.assertEqual(distance(row, other), count)
            self.assertEqual(distance(other, row), count)

    def test_unlike_lengths(self):
        for first, second in (([], [0]), ([0], []), ([0, 1], [0, 1, 1]), ([1] * 9, [1] * 8)):
            self.assert_bare(BadBits, distance, first, second)

    def test_the_arguments_stay(self):
        first, second = [0, 1, 1], [1, 1, 0]
        distance(first, second)
        self.assertEqual((first, second), ([0, 1, 1], [1, 1, 0]))


if __name__ == "__main__":
    unittest.main()
