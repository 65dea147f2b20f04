"""Levels (points 66 and 67)."""

import itertools
import unittest

from mobileair.signals import Signals
from tests.helpers import ProgramTest


def with_levels(*rows):
    """The signals of phones with these levels in their cells."""
    signals = Signals(len(rows), len(rows[0]))
    for phone, row in enumerate(rows):
        for cell, level in enumerate(row):
            signals.set_level(phone, cell, level)
    return signals


class LevelTest(ProgramTest):
    def test_at_first(self):
        signals = Signals(8, 4)
        for phone in range(8):
            for cell in range(4):
                self.assertEqual(signals.level(phone, cell), 0)
                self.assertIs(signals.hears(phone, cell), False)
            self.assertEqual(signals.best(phone), (0, 0))

    def test_set_level_returns_what_it_was(self):
        signals = Signals(2, 2)
        self.assertEqual(signals.set_level(0, 1, 20), 0)
        self.assertEqual(signals.set_level(0, 1, 63), 20)
        self.assertEqual(signals.set_level(0, 1, 63), 63)
        self.assertEqual(signals.set_level(0, 1, 0), 63)
        self.assertEqual(signals.set_level(0, 1, 5), 0)

    def test_each_level_of_each_phone_by_itself(self):
        signals = Signals(3, 4)
        for phone in range(3):
            for cell in range(4):
                signals.set_level(phone, cell, 10 * phone + cell)
        found = [[signals.level(phone, cell) for cell in range(4)] for phone in range(3)]
        self.assertEqual(found, [[0, 1, 2, 3], [10, 11, 12, 13], [20, 21, 22, 23]])
        other = Signals(3, 4)
        self.assertEqual(other.level(2, 3), 0)

    def test_every_level(self):
        signals = Signals(1, 1)
        for level in range(64):
            signals.set_level(0, 0, level)
            self.assertEqual(signals.level(0, 0), level)
            self.assertIs(signals.hears(0, 0), level >= 5)
            self.assertEqual(signals.best(0), (0, level))

    def test_no_such_phone_and_no_such_cell(self):
        signals = with_levels([7, 8], [9, 10], [11, 12])
        for phone in (-1, -3, 3, 4, 100):
            self.assert_no_such("phone", phone, signals.best, phone)
            for cell in (-1, 0, 1, 2):
                self.assert_no_such("phone", phone, signals.level, phone, cell)
                self.assert_no_such("phone", phone, signals.hears, phone, cell)
                for level in (-1, 20, 64):
                    self.assert_no_such("phone", phone, signals.set_level, phone, cell, level)
        for phone in range(3):
            for cell in (-1, -2, 2, 3, 100):
                self.assert_no_such("cell", cell, signals.level, phone, cell)
                self.assert_no_such("cell", cell, signals.hears, phone, cell)
                for level in (-1, 20, 64):
                    self.assert_no_such("cell", cell, signals.set_level, phone, cell, level)
        self.assertEqual([signals.best(phone) for phone in range(3)], [(1, 8), (1, 10), (1, 12)])

    def test_level_out_of_range(self):
        signals = with_levels([7, 8])
        for level in (-1, -63, 64, 65, 1000):
            self.assert_out_of_range("level", signals.set_level, 0, 1, level)
        self.assertEqual([signals.level(0, 0), signals.level(0, 1)], [7, 8])

    def test_best_raises_for_the_phone_with_a_cell_left_out(self):
        signals = Signals(1, 2)
        for phone in (-1, 1):
            for cell in (None, 0, 1):
                with self.assertRaises(ValueError) as caught:
                    signals.best(phone, without=cell)
                self.assertEqual((caught.exception.what, caught.exception.number), ("phone", phone))


class BestTest(ProgramTest):
    def test_the_greatest_level(self):
        signals = with_levels([3, 9, 4, 8], [63, 0, 0, 62], [0, 0, 0, 1])
        self.assertEqual([signals.best(phone) for phone in range(3)], [(1, 9), (0, 63), (3, 1)])
        self.assertIs(type(signals.best(0)), tuple)

    def test_equal_levels(self):
        signals = with_levels([7, 7, 7, 7], [1, 7, 7, 2], [0, 0, 0, 0])
        self.assertEqual([signals.best(phone) for phone in range(3)], [(0, 7), (1, 7), (0, 0)])
        self.assertEqual([signals.best(0, without=cell) for cell in range(4)], [(1, 7), (0, 7), (0, 7), (0, 7)])
        self.assertEqual([signals.best(1, without=cell) for cell in range(4)], [(1, 7), (2, 7), (1, 7), (1, 7)])
        self.assertEqual([signals.best(2, without=cell) for cell in range(4)], [(1, 0), (0, 0), (0, 0), (0, 0)])

    def test_one_cell_alone(self):
        signals = with_levels([30])
        self.assertEqual(signals.best(0), (0, 30))
        self.assertEqual(signals.best(0, without=None), (0, 30))
        self.assertEqual(signals.best(0, without=0), (None, 0))

    def test_all_small_levels(self):
        for row in itertools.product((0, 4, 5, 6), repeat=4):
            signals = with_levels(row)
            for left_out in (None, 0, 1, 2, 3):
                pairs = [(-level, cell) for cell, level in enumerate(row) if cell != left_out]
                level, cell = min(pairs)
                self.assertEqual(signals.best(0, without=left_out), (cell, -level))

    def test_asking_changes_nothing(self):
        signals = with_levels([3, 9])
        for _ in range(3):
            self.assertEqual(signals.best(0, without=1), (0, 3))
            self.assertEqual(signals.best(0), (1, 9))
        self.assertEqual([signals.level(0, 0), signals.level(0, 1)], [3, 9])


if __name__ == "__main__":
    unittest.main()
