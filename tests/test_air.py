"""What becomes of the blocks (point 124)."""

import random
import unittest

from mobileair.air import Air
from mobileair.bits import flipped
from mobileair.bursts import code_block, read_block
from mobileair.signals import Signals
from tests.helpers import ProgramTest, random_octets

BLOCK = tuple(range(100, 123))


def air_of(*levels):
    """Air and signals of phones, each with its levels in the cells."""
    signals = Signals(len(levels), len(levels[0]))
    for phone, row in enumerate(levels):
        for cell, level in enumerate(row):
            signals.set_level(phone, cell, level)
    return Air(signals), signals


class AirTest(ProgramTest):
    def carried(self, air, phone, way, times, cell=0):
        """Which of so many blocks arrive; each is another block, and arrives as it was sent."""
        found = []
        for at in range(times):
            block = (at,) + BLOCK[1:]
            arrived = air.carry(phone, way, cell, block)
            self.assertIn(arrived, (None, block))
            found.append(arrived is not None)
        return found

    def test_levels(self):
        for level in range(64):
            air, _ = air_of([level, 63 - level])
            for way in ("up", "down"):
                self.assertEqual(air.carry(0, way, 0, BLOCK), BLOCK if level >= 5 else None)
                self.assertEqual(air.carry(0, way, 1, BLOCK), BLOCK if 63 - level >= 5 else None)

    def test_levels_that_change(self):
        air, signals = air_of([4])
        self.assertIsNone(air.carry(0, "up", 0, BLOCK))
        signals.set_level(0, 0, 5)
        self.assertEqual(air.carry(0, "up", 0, BLOCK), BLOCK)
        signals.set_level(0, 0, 0)
        self.assertIsNone(air.carry(0, "up", 0, BLOCK))

    def test_any_block(self):
        air, _ = air_of([5])
        for block in ((0,) * 23, (255,) * 23, (43,) * 23):
            self.assertEqual(air.carry(0, "down", 0, block), block)

    def test_blocks_that_are_lost(self):
        for count in (0, 1, 2, 8, 100):
            air, _ = air_of([20])
            self.assertIsNone(air.lose(0, "up", count))
            self.assertEqual(self.carried(air, 0, "up", count + 3), [False] * count + [True] * 3)

    def test_each_way_and_each_phone_by_itself(self):
        air, _ = air_of([20], [20])
        air.lose(0, "up", 2)
        air.lose(1, "down", 3)
        self.assertEqual(self.carried(air, 0, "down", 4), [True] * 4)
        self.assertEqual(self.carried(air, 1, "up", 4), [True] * 4)
        self.assertEqual(self.carried(air, 0, "up", 4), [False, False, True, True])
        self.assertEqual(self.carried(air, 1, "down", 4), [False, False, False, True])

    def test_a_count_set_anew(self):
        air, _ = air_of([20])
        air.lose(0, "up", 5)
        self.assertEqual(self.carried(air, 0, "up", 2), [False, False])
        air.lose(0, "up", 1)
        self.assertEqual(self.carried(air, 0, "up", 2), [False, True])
        air.lose(0, "up", 1)
        air.lose(0, "up", 3)
        self.assertEqual(self.carried(air, 0, "up", 4), [False, False, False, True])
        air.lose(0, "up", 5)
        air.lose(0, "up", 0)
        self.assertEqual(self.carried(air, 0, "up", 1), [True])

    def test_blocks_below_the_level_use_up_the_count(self):
        air, signals = air_of([4])
        air.lose(0, "up", 3)
        self.assertEqual(self.carried(air, 0, "up", 2), [False, False])
        signals.set_level(0, 0, 20)
        self.assertEqual(self.carried(air, 0, "up", 2), [False, True])

    def test_the_count_holds_for_all_cells(self):
        air, _ = air_of([20, 20])
        air.lose(0, "down", 2)
        self.assertIsNone(air.carry(0, "down", 1, BLOCK))
        self.assertIsNone(air.carry(0, "down", 0, BLOCK))
        self.assertEqual(air.carry(0, "down", 0, BLOCK), BLOCK)

    def test_nothing_is_checked(self):
        air, _ = air_of([20])
        self.assertIsNone(air.lose(77, "sideways", 1000))
        self.assertIsNone(air.harm(77, "sideways", [1, 2]))
        self.assertEqual(air.carry(0, "up", 0, BLOCK), BLOCK)


class FlipsTest(ProgramTest):
    def test_up_to_three_flips_in_one_burst_and_in_several(self):
        chance = random.Random(124)
        rows = [[], [0], [455], [0, 1], [0, 114], [113, 114], [0, 1, 2], [0, 114, 228], [342, 343, 455], [5, 6, 300]]
        rows += [chance.sample(range(456), chance.randrange(1, 4)) for _ in range(60)]
        for places in rows:
            air, _ = air_of([20])
            block = random_octets(chance, 23)
            self.assertIsNone(air.harm(0, "up", places))
            self.assertEqual(air.carry(0, "up", 0, block), block)

    def test_the_bits_are_really_flipped(self):
        # More flips than can be put right show which bits they are.
        chance = random.Random(1)
        for count in (8, 20, 60):
            places = chance.sample(range(456), count)
            bursts = code_block(BLOCK)
            for place in places:
                bursts[place // 114] = flipped(bursts[place // 114], [place % 114])
            octets, _, good = read_block(bursts)
            air, _ = air_of([20])
            air.harm(0, "down", places)
            self.assertEqual(air.carry(0, "down", 0, BLOCK), octets if good else None)

    def test_a_block_that_cannot_be_read_is_lost(self):
        air, _ = air_of([20])
        air.harm(0, "up", list(range(100)))
        self.assertIsNone(air.carry(0, "up", 0, BLOCK))
        self.assertEqual(air.carry(0, "up", 0, BLOCK), BLOCK)

    def test_flips_hold_for_one_block(self):
        air, _ = air_of([20])
        air.harm(0, "up", list(range(100)))
        self.assertIsNone(air.carry(0, "up", 0, BLOCK))
        for _ in range(3):
            self.assertEqual(air.carry(0, "up", 0, BLOCK), BLOCK)

    def test_flips_of_a_block_that_is_lost_anyway(self):
        air, signals = air_of([20])
        air.harm(0, "up", list(range(100)))
        air.lose(0, "up", 1)
        self.assertIsNone(air.carry(0, "up", 0, BLOCK))
        self.assertEqual(air.carry(0, "up", 0, BLOCK), BLOCK)
        air.harm(0, "up", list(range(100)))
        signals.set_level(0, 0, 4)
        self.assertIsNone(air.carry(0, "up", 0, BLOCK))
        signals.set_level(0, 0, 5)
        self.assertEqual(air.carry(0, "up", 0, BLOCK), BLOCK)

    def test_flips_and_losses_are_used_up_by_the_same_block(self):
        air, _ = air_of([20])
        air.lose(0, "up", 2)
        air.harm(0, "up", list(range(100)))
        self.assertEqual([air.carry(0, "up", 0, BLOCK) for _ in range(3)], [None, None, BLOCK])

    def test_flips_of_each_way_and_each_phone(self):
        air, _ = air_of([20], [20])
        air.harm(1, "down", list(range(100)))
        for phone, way in ((0, "up"), (0, "down"), (1, "up")):
            self.assertEqual(air.carry(phone, way, 0, BLOCK), BLOCK)
        self.assertIsNone(air.carry(1, "down", 0, BLOCK))

    def test_flips_set_anew(self):
        air, _ = air_of([20])
        air.harm(0, "up", list(range(100)))
        air.harm(0, "up", [7])
        self.assertEqual(air.carry(0, "up", 0, BLOCK), BLOCK)
        air.harm(0, "up", list(range(100)))
        air.harm(0, "up", [])
        self.assertEqual(air.carry(0, "up", 0, BLOCK), BLOCK)

    def test_the_list_is_neither_kept_nor_changed(self):
        air, _ = air_of([20])
        places = [1, 200, 455]
        air.harm(0, "up", places)
        self.assertEqual(places, [1, 200, 455])
        places.extend(range(2, 102))
        self.assertEqual(air.carry(0, "up", 0, BLOCK), BLOCK)
        self.assertEqual(len(places), 103)


if __name__ == "__main__":
    unittest.main()
