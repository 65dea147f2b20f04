"""The convolutional code (points 8 to 10)."""

import itertools
import random
import time
import unittest

from mobileair.errors import BadBits
from mobileair.trellis import convolve, nearest
from tests.helpers import (
    ProgramTest, all_rows, plain_code, plain_nearest, random_bits, some_places, step_nearest, turned,
)


def closed_row(chance, count):
    return random_bits(chance, count - 4) + [0, 0, 0, 0]


class ConvolveTest(ProgramTest):
    def test_the_example(self):
        self.assertEqual(convolve([1, 0, 0, 0, 0]), [1, 1, 0, 1, 0, 0, 1, 1, 1, 1])

    def test_the_empty_row_and_rows_of_zeros(self):
        self.assertEqual(convolve([]), [])
        for count in range(10):
            self.assertEqual(convolve([0] * count), [0] * (2 * count))

    def test_a_single_one(self):
        answer = [1, 1, 0, 1, 0, 0, 1, 1, 1, 1]
        self.assertEqual(convolve([1]), [1, 1])
        for before in range(6):
            for behind in range(8):
                wanted = [0] * (2 * before) + (answer + [0] * 20)[:2 * (1 + behind)]
                self.assertEqual(convolve([0] * before + [1] + [0] * behind), wanted)

    def test_sums_of_rows(self):
        chance = random.Random(11)
        for count in (1, 5, 30, 228):
            first, second = random_bits(chance, count), random_bits(chance, count)
            both = [one ^ other for one, other in zip(first, second)]
            wanted = [one ^ other for one, other in zip(convolve(first), convolve(second))]
            self.assertEqual(convolve(both), wanted)

    def test_against_the_formula(self):
        for count in range(9):
            for row in all_rows(count):
                self.assertEqual(convolve(row), plain_code(row))
        row = random_bits(random.Random(12), 228)
        self.assert_bits(convolve(row), 456)
        self.assertEqual(convolve(row), plain_code(row))

    def test_the_row_stays(self):
        row = [1, 0, 1, 1]
        convolve(row).append(5)
        self.assertEqual(row, [1, 0, 1, 1])
        self.assertEqual(convolve(row), plain_code(row))


class NearestTest(ProgramTest):
    def test_the_example(self):
        self.assertEqual(nearest([1, 1, 0, 1, 1, 0, 1, 1, 1, 1]), ([1, 0, 0, 0, 0], 1))

    def test_kinds_of_values(self):
        answer = nearest([1, 1, 0, 1, 1, 0, 1, 1, 1, 1])
        self.assertIs(type(answer), tuple)
        self.assert_bits(answer[0], 5)
        self.assertIs(type(answer[1]), int)

    def test_only_one_row_for_eight_bits(self):
        for coded in all_rows(8):
            self.assertEqual(nearest(coded), ([0, 0, 0, 0], sum(coded)))

    def test_all_short_bits_against_all_rows(self):
        for count in (10, 12):
            for coded in all_rows(count):
                self.assertEqual(nearest(coded), plain_nearest(coded))

    def test_random_bits_against_all_rows(self):
        chance = random.Random(13)
        for count, times in ((14, 200), (18, 60), (24, 12)):
            for _ in range(times):
                coded = random_bits(chance, count)
                self.assertEqual(nearest(coded), plain_nearest(coded))

    def test_equally_near_rows(self):
        ties = 0
        for coded in all_rows(12):
            costs = {}
            for start in all_rows(2):
                row = start + [0, 0, 0, 0]
                cost = sum(one != other for one, other in zip(plain_code(row), coded))
                costs.setdefault(cost, []).append(row)
            rows = costs[min(costs)]
            if len(rows) > 1:
                ties += 1
                self.assertEqual(nearest(coded), (min(rows), min(costs)))
        self.assertGreater(ties, 100)

    def test_bits_far_from_every_coded_form(self):
        chance = random.Random(14)
        far = 0
        for _ in range(3000):
            coded = random_bits(chance, 16)
            wanted = plain_nearest(coded) if far < 60 and nearest(coded)[1] >= 4 else None
            if wanted is not None:
                far += 1
                self.assertEqual(nearest(coded), wanted)
        self.assertEqual(far, 60)

    def test_the_last_four_bits_are_zero(self):
        chance = random.Random(15)
        for count in (8, 10, 22, 100, 456):
            for coded in ([1] * count, random_bits(chance, count), convolve([1] * (count // 2))):
                row, cost = nearest(coded)
                self.assertEqual(row[-4:], [0, 0, 0, 0])
                self.assertEqual(cost, sum(one != other for one, other in zip(plain_code(row), coded)))

    def test_long_rows(self):
        chance = random.Random(16)
        for count in (36, 78, 100, 250, 378, 456):
            for coded in ([0] * count, [1] * count, [0, 1] * (count // 2), random_bits(chance, count)):
                self.assertEqual(nearest(coded), step_nearest(coded))

    def test_many_long_calls(self):
        chance = random.Random(17)
        rows = [random_bits(chance, 456) for _ in range(200)]
        begin = time.perf_counter()
        for coded in rows:
            nearest(coded)
        self.assertLess(time.perf_counter() - begin, 20)

    def test_wrong_counts(self):
        for count in (0, 1, 2, 3, 4, 5, 6, 7, 9, 11, 77, 455, 457):
            self.assert_bare(BadBits, nearest, [0] * count)

    def test_the_bits_stay(self):
        coded = [1, 1, 0, 1, 1, 0, 1, 1, 1, 1]
        nearest(coded)[0].append(5)
        self.assertEqual(coded, [1, 1, 0, 1, 1, 0, 1, 1, 1, 1])
        self.assertEqual(nearest(coded), ([1, 0, 0, 0, 0], 1))


class RepairTest(ProgramTest):
    def test_coded_forms_differ_in_seven_places_at_least(self):
        least = min(sum(plain_code(start + [0, 0, 0, 0])) for start in all_rows(10) if any(start))
        self.assertEqual(least, 7)
        forms = [convolve(start + [0, 0, 0, 0]) for start in all_rows(6)]
        for first, second in itertools.combinations(forms, 2):
            self.assertGreaterEqual(sum(one != other for one, other in zip(first, second)), 7)

    def test_up_to_three_flips_anywhere_in_a_short_row(self):
        chance = random.Random(18)
        for count in (5, 8):
            row = closed_row(chance, count)
            coded = convolve(row)
            for flips in range(4):
                for places in itertools.combinations(range(2 * count), flips):
                    self.assertEqual(nearest(turned(coded, places)), (row, flips))

    def test_up_to_three_flips_in_long_rows(self):
        chance = random.Random(19)
        for count in (39, 100, 189, 228):
            for flips in range(4):
                for places in some_places(count + flips, 2 * count, flips, 15):
                    row = closed_row(chance, count)
                    self.assertEqual(nearest(turned(convolve(row), places)), (row, flips))

    def test_flips_at_both_ends(self):
        row = closed_row(random.Random(20), 228)
        coded = convolve(row)
        for places in ([0, 1, 2], [453, 454, 455], [0, 455], [0], [455], [0, 1, 455]):
            self.assertEqual(nearest(turned(coded, places)), (row, len(places)))


if __name__ == "__main__":
    unittest.main()
