"""Camping (points 68 and 69)."""

import itertools
import unittest

from mobileair.camping import next_camp
from tests.helpers import ProgramTest
from tests.test_signals import with_levels


def camp_of(levels, camp):
    return next_camp(with_levels(levels), 0, camp)


def by_hand(levels, camp):
    best = max(range(len(levels)), key=lambda cell: (levels[cell], -cell))
    if camp is not None and levels[camp] < 5:
        camp = None
    if camp is None:
        return best if levels[best] >= 10 else None
    return best if levels[best] >= levels[camp] + 6 else camp


class CampingTest(ProgramTest):
    def test_on_none(self):
        self.assertIsNone(camp_of([0], None))
        self.assertIsNone(camp_of([9], None))
        self.assertEqual(camp_of([10], None), 0)
        self.assertEqual(camp_of([11], None), 0)
        self.assertIsNone(camp_of([9, 9, 9, 9], None))
        self.assertEqual(camp_of([9, 10], None), 1)
        self.assertEqual(camp_of([10, 10], None), 0)
        self.assertEqual(camp_of([10, 63, 62], None), 1)

    def test_in_its_own_cell(self):
        self.assertEqual(camp_of([5], 0), 0)
        self.assertIsNone(camp_of([4], 0))
        self.assertEqual(camp_of([63], 0), 0)
        self.assertEqual(camp_of([5, 0], 0), 0)
        self.assertEqual(camp_of([9, 5], 1), 1)
        self.assertEqual(camp_of([0, 0, 63], 2), 2)

    def test_a_better_cell(self):
        for own in range(5, 57):
            self.assertEqual(camp_of([own, own + 5], 0), 0)
            self.assertEqual(camp_of([own, own + 6], 0), 1)
            self.assertEqual(camp_of([own, own + 7], 0), 1)
            self.assertEqual(camp_of([own + 5, own], 1), 1)
            self.assertEqual(camp_of([own + 6, own], 1), 0)
        self.assertEqual(camp_of([20, 26, 26], 0), 1)
        self.assertEqual(camp_of([20, 26, 27], 0), 2)
        self.assertEqual(camp_of([26, 26, 20], 2), 0)
        self.assertEqual(camp_of([20, 25, 25], 0), 0)

    def test_below_hearing_in_its_own_cell(self):
        self.assertIsNone(camp_of([4, 9], 0))
        self.assertEqual(camp_of([4, 10], 0), 1)
        self.assertEqual(camp_of([0, 63], 0), 1)
        self.assertEqual(camp_of([10, 4], 1), 0)
        self.assertIsNone(camp_of([9, 3], 1))
        self.assertIsNone(camp_of([4, 4], 0))
        self.assertIsNone(camp_of([4, 3], 0))
        self.assertIsNone(camp_of([0, 0], 1))

    def test_all_borders(self):
        borders = (0, 4, 5, 9, 10, 11, 15, 16, 17)
        for levels in itertools.product(borders, repeat=3):
            signals = with_levels(levels)
            for camp in (None, 0, 1, 2):
                self.assertEqual(next_camp(signals, 0, camp), by_hand(levels, camp), (levels, camp))

    def test_each_phone_by_its_own_levels(self):
        signals = with_levels([30, 0], [0, 30], [9, 9])
        self.assertEqual([next_camp(signals, phone, None) for phone in range(3)], [0, 1, None])
        self.assertEqual([next_camp(signals, phone, 1) for phone in range(3)], [0, 1, 1])
        self.assertEqual([signals.level(0, 0), signals.level(1, 1), signals.level(2, 0)], [30, 30, 9])

    def test_no_such_phone(self):
        signals = with_levels([30])
        for phone in (-1, 1):
            for camp in (None, 0):
                self.assert_no_such("phone", phone, next_camp, signals, phone, camp)


if __name__ == "__main__":
    unittest.main()
