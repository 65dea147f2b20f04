"""Access (points 70 and 71)."""

import itertools
import unittest

from mobileair.access import heard, may_ask
from tests.helpers import ProgramTest


class MayAskTest(ProgramTest):
    def test_no_tries(self):
        for number in range(8):
            for tick in range(40):
                self.assertIs(may_ask(number, 0, tick), True)

    def test_some_tries(self):
        for number in range(8):
            for tries in (1, 2):
                wanted = [tick for tick in range(80) if may_ask(number, tries, tick)]
                self.assertEqual(wanted, [number + 8 * turn for turn in range(10)])
                self.assertIs(may_ask(number, tries, number), True)
                self.assertIs(may_ask(number, tries, number + 1), False)

    def test_late_ticks(self):
        self.assertIs(may_ask(3, 1, 8003), True)
        self.assertIs(may_ask(3, 1, 8004), False)
        self.assertIs(may_ask(0, 2, 8000), True)
        self.assertIs(may_ask(7, 2, 8000), False)


def heard_by_hand(asks):
    for phone, level in asks:
        if all(phone == other or level - loud >= 8 for other, loud in asks):
            return phone
    return None


class HeardTest(ProgramTest):
    def test_no_phone(self):
        self.assertIsNone(heard([]))

    def test_one_phone_of_any_level(self):
        for level in range(64):
            for phone in range(8):
                self.assertEqual(heard([(phone, level)]), phone)

    def test_two_phones(self):
        for low in range(56):
            for more in range(64 - low):
                wanted = 5 if more >= 8 else None
                self.assertEqual(heard([(3, low), (5, low + more)]), wanted)
                self.assertEqual(heard([(5, low + more), (3, low)]), wanted)

    def test_equal_levels(self):
        self.assertIsNone(heard([(0, 20), (1, 20)]))
        self.assertIsNone(heard([(0, 63), (1, 63), (2, 0)]))
        self.assertIsNone(heard([(0, 0), (1, 0)]))

    def test_more_than_two_in_every_order(self):
        for asks in itertools.permutations([(0, 10), (4, 30), (6, 22), (7, 3)]):
            self.assertEqual(heard(list(asks)), 4)
        for asks in itertools.permutations([(0, 10), (4, 30), (6, 23), (7, 3)]):
            self.assertIsNone(heard(list(asks)))
        for asks in itertools.permutations([(0, 30), (1, 30), (2, 38), (3, 12)]):
            self.assertEqual(heard(list(asks)), 2)
        for asks in itertools.permutations([(0, 31), (1, 30), (2, 38)]):
            self.assertIsNone(heard(list(asks)))

    def test_phone_0_is_a_phone(self):
        self.assertEqual(heard([(1, 5), (0, 40)]), 0)

    def test_all_eight(self):
        levels = [5, 13, 21, 29, 37, 45, 53, 61]
        self.assertEqual(heard(list(enumerate(levels))), 7)
        self.assertEqual(heard(list(enumerate(levels[::-1]))), 0)
        self.assertIsNone(heard(list(enumerate([*levels[:7], 60]))))

    def test_against_the_words_of_the_point(self):
        for levels in itertools.product((0, 7, 8, 15, 16, 24), repeat=3):
            asks = list(zip((6, 0, 3), levels))
            self.assertEqual(heard(asks), heard_by_hand(asks), asks)

    def test_the_list_is_not_changed(self):
        asks = [(3, 20), (5, 28), (1, 4)]
        self.assertEqual(heard(asks), 5)
        self.assertEqual(asks, [(3, 20), (5, 28), (1, 4)])


if __name__ == "__main__":
    unittest.main()
