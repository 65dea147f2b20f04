"""Parity (points 4 to 7)."""

import random
import unittest

from mobileair.polynomials import (
    ACCESS_DIVISOR, BLOCK_DIVISOR, SPEECH_DIVISOR, SYNC_DIVISOR, is_right, parity, remainder,
)
from tests.helpers import (
    ACCESS_POWERS, BLOCK_POWERS, SPEECH_POWERS, SYNC_POWERS, ProgramTest, all_rows, plain_remainder, random_bits,
    turned,
)

FOUR = (
    (BLOCK_DIVISOR, BLOCK_POWERS),
    (SYNC_DIVISOR, SYNC_POWERS),
    (ACCESS_DIVISOR, ACCESS_POWERS),
    (SPEECH_DIVISOR, SPEECH_POWERS),
)
SHORT = ((1, 0), (1, 1), (1, 0, 0), (1, 0, 1), (1, 1, 0), (1, 1, 1), (1, 0, 0, 1, 1))


def powers_of(divisor):
    return tuple(len(divisor) - 1 - at for at, bit in enumerate(divisor) if bit)


def all_divisors():
    return [divisor for divisor, _ in FOUR] + list(SHORT)


class DivisorsTest(ProgramTest):
    def test_the_powers_of_the_four_divisors(self):
        for divisor, powers in FOUR:
            self.assertIs(type(divisor), tuple)
            self.assertEqual(len(divisor), powers[0] + 1)
            self.assertEqual(set(divisor), {0, 1})
            self.assertEqual(powers_of(divisor), powers)


class RemainderTest(ProgramTest):
    def test_the_example(self):
        self.assertEqual(remainder([1, 0, 1, 1, 0, 0, 0], (1, 0, 1, 1)), [0, 0, 0])

    def test_by_hand(self):
        self.assertEqual(remainder([1, 0, 0, 0], (1, 0, 1, 1)), [0, 1, 1])
        self.assertEqual(remainder([1, 0, 0, 0, 0], (1, 0, 1, 1)), [1, 1, 0])
        self.assertEqual(remainder([1, 1, 1], [1, 1]), [1])
        self.assertEqual(remainder([1, 0, 1], [1, 0]), [1])

    def test_no_bits(self):
        for divisor in all_divisors():
            self.assertEqual(remainder([], divisor), [0] * (len(divisor) - 1))

    def test_rows_shorter_than_the_divisor_have_zeros_in_front(self):
        chance = random.Random(3)
        for divisor in all_divisors():
            for count in range(len(divisor)):
                row = random_bits(chance, count)
                self.assertEqual(remainder(row, divisor), [0] * (len(divisor) - 1 - count) + row)

    def test_rows_as_long_as_the_divisor(self):
        chance = random.Random(4)
        for divisor in all_divisors():
            self.assertEqual(remainder(list(divisor), divisor), [0] * (len(divisor) - 1))
            for first in (0, 1):
                row = [first] + random_bits(chance, len(divisor) - 1)
                self.assertEqual(remainder(row, divisor), plain_remainder(row, powers_of(divisor)))

    def test_longer_rows_with_lists_and_tuples(self):
        chance = random.Random(5)
        for divisor in all_divisors():
            for more in (1, 2, 3, 8, 50, 224):
                row = random_bits(chance, len(divisor) + more)
                wanted = plain_remainder(row, powers_of(divisor))
                self.assertEqual(remainder(row, tuple(divisor)), wanted)
                self.assertEqual(remainder(row, list(divisor)), wanted)
                self.assert_bits(remainder(row, divisor), len(divisor) - 1)

    def test_all_short_rows(self):
        for divisor in SHORT:
            for count in range(8):
                for row in all_rows(count):
                    self.assertEqual(remainder(row, divisor), plain_remainder(row, powers_of(divisor)))

    def test_a_shifted_divisor_more_leaves_the_same(self):
        chance = random.Random(6)
        for divisor in all_divisors():
            for shift in (0, 1, 5, 40):
                row = random_bits(chance, len(divisor) + 40)
                ends = [0] * (40 - shift) + list(divisor) + [0] * shift
                moved = [one ^ other for one, other in zip(row, ends)]
                self.assertEqual(remainder(moved, divisor), remainder(row, divisor))

    def test_the_arguments_stay(self):
        row, divisor = [1, 0, 1, 1, 1, 0], [1, 0, 1]
        remainder(row, divisor).append(5)
        self.assertEqual((row, divisor), ([1, 0, 1, 1, 1, 0], [1, 0, 1]))
        self.assertEqual(remainder(row, divisor), plain_remainder(row, (2, 0)))


class ParityTest(ProgramTest):
    def test_a_row_and_its_parity_leave_one_in_all_places(self):
        chance = random.Random(7)
        for divisor in all_divisors():
            for count in (0, 1, 2, 7, 8, 25, 50, 184):
                row = random_bits(chance, count)
                found = parity(row, divisor)
                self.assert_bits(found, len(divisor) - 1)
                self.assertEqual(plain_remainder(row + found, powers_of(divisor)), [1] * (len(divisor) - 1))

    def test_no_content(self):
        for divisor in all_divisors():
            self.assertEqual(parity([], divisor), [1] * (len(divisor) - 1))

    def test_by_hand(self):
        self.assertEqual(parity([1], (1, 0, 1, 1)), [1, 0, 0])
        self.assertEqual(parity([1], [1, 0, 1, 1]), [1, 0, 0])
        self.assertEqual(parity([0, 0, 0], (1, 0, 1, 1)), [1, 1, 1])

    def test_is_right(self):
        chance = random.Random(8)
        for divisor in all_divisors():
            row = random_bits(chance, 30)
            found = parity(row, divisor)
            self.assertIs(is_right(row, found, divisor), True)
            self.assertIs(is_right(row, list(found), list(divisor)), True)
            for place in range(len(found)):
                self.assertIs(is_right(row, turned(found, [place]), divisor), False)

    def test_is_right_with_another_length(self):
        for divisor in all_divisors():
            row = [1, 1, 0, 1]
            found = parity(row, divisor)
            for other in ([], found[1:], found[:-1], found + [0], [0] + found, found + [1], found + found):
                if other != found:
                    self.assertIs(is_right(row, other, divisor), False)

    def test_one_turned_bit_of_the_content_makes_it_wrong(self):
        chance = random.Random(9)
        for divisor, _ in FOUR:
            row = random_bits(chance, 40)
            found = parity(row, divisor)
            for place in range(40):
                self.assertIs(is_right(turned(row, [place]), found, divisor), False)

    def test_the_arguments_stay(self):
        row, found, divisor = [1, 0, 1, 1], [0, 1], [1, 0, 1]
        parity(row, divisor).append(5)
        is_right(row, found, divisor)
        self.assertEqual((row, found, divisor), ([1, 0, 1, 1], [0, 1], [1, 0, 1]))


if __name__ == "__main__":
    unittest.main()
