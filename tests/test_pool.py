"""Channels (point 65)."""

import random
import unittest

from mobileair.errors import NotNow
from mobileair.pool import Pool
from tests.helpers import ProgramTest


class PoolTest(ProgramTest):
    def assert_not_now(self, what, function, *arguments):
        self.assert_raises_what(NotNow, what, function, *arguments)

    def assert_statuses(self, pool, tick, *rows):
        """The statuses of the channels of all cells, told by their first letters."""
        found = ["".join(pool.status(cell, channel, tick)[0] for channel in range(len(row)))
                 for cell, row in enumerate(rows)]
        self.assertEqual(found, list(rows))

    def test_all_are_free_at_first(self):
        pool = Pool([2, 1, 6])
        for tick in (0, 5, 1000):
            for cell, size in enumerate((2, 1, 6)):
                self.assertEqual(pool.free(cell, tick), 0)
                for channel in range(size):
                    self.assertEqual(pool.status(cell, channel, tick), "free")
                    self.assertIsNone(pool.owner(cell, channel))
        for owner in (0, 1, -1):
            self.assertEqual(pool.held_by(owner), [])

    def test_hold(self):
        pool = Pool([2, 3])
        self.assertIsNone(pool.hold(1, 1, 7, 0))
        self.assert_statuses(pool, 0, "ff", "fhf")
        self.assert_statuses(pool, 500, "ff", "fhf")
        self.assertEqual(pool.owner(1, 1), 7)
        self.assertIsNone(pool.owner(0, 1))
        self.assertIsNone(pool.owner(1, 0))
        self.assertEqual(pool.held_by(7), [(1, 1)])
        self.assertEqual(pool.held_by(1), [])

    def test_any_owner(self):
        for owner in (0, -1, 1, 10 ** 12):
            pool = Pool([2])
            pool.hold(0, 0, owner, 3)
            self.assertEqual(pool.owner(0, 0), owner)
            self.assertEqual(pool.status(0, 0, 3), "held")
            self.assertEqual(pool.held_by(owner), [(0, 0)])
            self.assertEqual(pool.free(0, 3), 1)
            self.assert_not_now("hold", pool.hold, 0, 0, owner, 3)
            pool.let_go(0, 0, 4)
            self.assertIsNone(pool.owner(0, 0))
            self.assertEqual(pool.held_by(owner), [])

    def test_the_ticks_of_rest(self):
        for begin in (0, 1, 7, 100):
            pool = Pool([1])
            pool.hold(0, 0, 5, begin)
            self.assertIsNone(pool.let_go(0, 0, begin + 3))
            self.assertIsNone(pool.owner(0, 0))
            for tick in range(begin + 3, begin + 13):
                self.assertEqual(pool.status(0, 0, tick), "rests")
                self.assertIsNone(pool.free(0, tick))
                self.assert_not_now("hold", pool.hold, 0, 0, 6, tick)
                self.assert_not_now("let go", pool.let_go, 0, 0, tick)
            for tick in (begin + 13, begin + 14, begin + 1000):
                self.assertEqual(pool.status(0, 0, tick), "free")
                self.assertEqual(pool.free(0, tick), 0)
            self.assert_not_now("let go", pool.let_go, 0, 0, begin + 13)
            pool.hold(0, 0, 6, begin + 13)
            self.assertEqual(pool.owner(0, 0), 6)
            self.assertEqual(pool.status(0, 0, begin + 13), "held")

    def test_let_go_in_the_tick_of_the_holding(self):
        pool = Pool([1])
        pool.hold(0, 0, 5, 20)
        pool.let_go(0, 0, 20)
        self.assertEqual([pool.status(0, 0, tick) for tick in (20, 29, 30)], ["rests", "rests", "free"])

    def test_a_second_rest(self):
        pool = Pool([1])
        pool.hold(0, 0, 5, 0)
        pool.let_go(0, 0, 0)
        pool.hold(0, 0, 5, 10)
        pool.let_go(0, 0, 15)
        self.assertEqual([pool.status(0, 0, tick) for tick in (15, 24, 25)], ["rests", "rests", "free"])

    def test_the_least_free_channel(self):
        pool = Pool([4, 2])
        for channel in range(4):
            self.assertEqual(pool.free(0, 0), channel)
            pool.hold(0, channel, 9, 0)
        self.assertIsNone(pool.free(0, 0))
        self.assertEqual(pool.free(1, 0), 0)
        pool.let_go(0, 2, 1)
        pool.let_go(0, 1, 3)
        self.assertEqual([pool.free(0, tick) for tick in (3, 10, 11, 12, 13)], [None, None, 2, 2, 1])
        self.assert_statuses(pool, 11, "hrfh", "ff")
        pool.hold(1, 0, 9, 13)
        self.assertEqual(pool.free(1, 13), 1)

    def test_held_by_in_ascending_order(self):
        pool = Pool([6, 6, 6, 6])
        places = [(cell, channel) for cell in range(4) for channel in range(6)]
        random.Random(65).shuffle(places)
        for at, (cell, channel) in enumerate(places):
            pool.hold(cell, channel, at % 3, 0)
        for owner in range(3):
            found = pool.held_by(owner)
            self.assertIs(type(found), list)
            self.assertEqual(found, sorted(places[owner::3]))
            self.assertEqual([type(place) for place in found], [tuple] * 8)
        cell, channel = places[0]
        pool.let_go(cell, channel, 1)
        self.assertEqual(pool.held_by(0), sorted(places[3::3]))
        pool.held_by(1).clear()
        self.assertEqual(pool.held_by(1), sorted(places[1::3]))

    def test_no_such_cell_and_no_such_channel(self):
        pool = Pool([2, 3])
        pool.hold(0, 0, 1, 0)
        for cell in (-1, -2, 2, 3, 100):
            self.assert_no_such("cell", cell, pool.free, cell, 0)
            for channel in (-1, 0, 1, 2, 5):
                self.assert_no_such("cell", cell, pool.hold, cell, channel, 1, 0)
                self.assert_no_such("cell", cell, pool.let_go, cell, channel, 0)
                self.assert_no_such("cell", cell, pool.owner, cell, channel)
                self.assert_no_such("cell", cell, pool.status, cell, channel, 0)
        for cell, channels in ((0, (-1, -2, 2, 3, 9)), (1, (-1, -3, 3, 4, 9))):
            for channel in channels:
                self.assert_no_such("channel", channel, pool.hold, cell, channel, 1, 0)
                self.assert_no_such("channel", channel, pool.let_go, cell, channel, 0)
                self.assert_no_such("channel", channel, pool.owner, cell, channel)
                self.assert_no_such("channel", channel, pool.status, cell, channel, 0)
        self.assert_statuses(pool, 0, "hf", "fff")
        self.assertEqual(pool.held_by(1), [(0, 0)])

    def test_what_is_not_possible_changes_nothing(self):
        pool = Pool([3])
        pool.hold(0, 0, 4, 0)
        self.assert_not_now("hold", pool.hold, 0, 0, 5, 0)
        self.assert_not_now("hold", pool.hold, 0, 0, 4, 9)
        self.assert_not_now("let go", pool.let_go, 0, 1, 9)
        self.assertEqual([pool.owner(0, channel) for channel in range(3)], [4, None, None])
        self.assert_statuses(pool, 9, "hff")
        pool.let_go(0, 0, 9)
        self.assert_not_now("let go", pool.let_go, 0, 0, 12)
        self.assert_statuses(pool, 18, "rff")
        self.assert_statuses(pool, 19, "fff")

    def test_the_list_of_sizes_is_not_kept(self):
        sizes = [2, 1]
        pool = Pool(sizes)
        self.assertEqual(sizes, [2, 1])
        sizes[0] = 1
        sizes.append(5)
        pool.hold(0, 0, 1, 0)
        self.assertEqual(pool.free(0, 0), 1)
        self.assertEqual(pool.status(0, 1, 0), "free")
        self.assert_no_such("cell", 2, pool.free, 2, 0)

    def test_two_pools_beside_each_other(self):
        first, second = Pool([1]), Pool([1])
        first.hold(0, 0, 1, 0)
        self.assertEqual([first.status(0, 0, 0), second.status(0, 0, 0)], ["held", "free"])

    def test_many_steps(self):
        """Beside a plain table of what each channel is and since when."""
        for seed in range(40):
            chance = random.Random(seed)
            sizes = [chance.randrange(1, 7) for _ in range(chance.randrange(1, 5))]
            pool, tick = Pool(sizes), 0
            table = {(cell, channel): ("free", 0) for cell, size in enumerate(sizes) for channel in range(size)}
            for _ in range(150):
                tick += chance.choice((0, 0, 1, 1, 2, 5))
                for place, (word, since) in table.items():
                    if word == "rests" and tick >= since + 10:
                        table[place] = ("free", 0)
                place = chance.choice(list(table))
                word = table[place][0]
                if chance.randrange(2):
                    owner = chance.randrange(4)
                    if word == "free":
                        pool.hold(*place, owner, tick)
                        table[place] = ("held", owner)
                    else:
                        self.assert_not_now("hold", pool.hold, *place, owner, tick)
                elif word == "held":
                    pool.let_go(*place, tick)
                    table[place] = ("rests", tick)
                else:
                    self.assert_not_now("let go", pool.let_go, *place, tick)
                self.assert_like(pool, table, tick, len(sizes))

    def assert_like(self, pool, table, tick, cells):
        for place, (word, number) in table.items():
            self.assertEqual(pool.status(*place, tick), word)
            self.assertEqual(pool.owner(*place), number if word == "held" else None)
        for cell in range(cells):
            free = [channel for (at, channel), (word, _) in table.items() if at == cell and word == "free"]
            self.assertEqual(pool.free(cell, tick), min(free, default=None))
        for owner in range(4):
            self.assertEqual(pool.held_by(owner), sorted(at for at, pair in table.items() if pair == ("held", owner)))


if __name__ == "__main__":
    unittest.main()
