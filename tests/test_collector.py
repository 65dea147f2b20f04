"""Collecting (points 45 to 47)."""

import itertools
import random
import unittest

from mobileair.alphabet import text_of
from mobileair.collector import Collector
from mobileair.errors import BadText, NotNow
from mobileair.packing import pack
from mobileair.parts import cut, read_part
from tests.helpers import ProgramTest


def part(mark, many, number, row):
    return (1, len(row) + 7, 5, 0, 3, mark, many, number, *pack(row, 1))


def letter(mark, many, number):
    """A part with a single letter, which tells whose part it is."""
    return part(mark, many, number, [97 + mark + 5 * number])


class CollectorTest(ProgramTest):
    def assert_takes(self, collector, octets, text, held):
        found = collector.take(octets)
        self.assertEqual(found, text)
        self.assertEqual(found is None, text is None)
        self.assertEqual(collector.held, held)
        self.assertIs(type(collector.held), int)

    def assert_no_room(self, collector, octets):
        held = collector.held
        self.assert_raises_what(NotNow, "room", collector.take, octets)
        self.assertEqual(collector.held, held)

    def filled(self):
        """A collector that holds twelve parts, and no text of which a single part is missing."""
        collector = Collector()
        for at in range(6):
            self.assert_takes(collector, letter(at, 4, 1 + at % 2), None, 2 * at + 1)
            self.assert_takes(collector, letter(at, 4, 3 + at % 2), None, 2 * at + 2)
        return collector

    def test_nothing_is_held_at_first(self):
        self.assertEqual(Collector().held, 0)

    def test_a_whole_text(self):
        collector = Collector()
        for text in ("", "a", "hello [world]", "a" * 160):
            for _ in range(2):
                self.assert_takes(collector, cut(text, 3)[0], text, 0)

    def test_a_whole_text_beside_parts_that_are_held(self):
        collector = Collector()
        first, second = cut("a" * 200, 0)
        self.assert_takes(collector, second, None, 1)
        self.assert_takes(collector, cut("b", 0)[0], "b", 1)
        self.assert_takes(collector, cut("", 0)[0], "", 1)
        self.assert_takes(collector, first, "a" * 200, 0)

    def test_every_order(self):
        for many in (2, 3, 4):
            text = ("a]b\n@?c" * 90)[:130 * many] + "!"
            parts = cut(text, 9)
            self.assertEqual(len(parts), many)
            for order in itertools.permutations(parts):
                collector = Collector()
                for at, octets in enumerate(order[:-1]):
                    self.assert_takes(collector, octets, None, at + 1)
                self.assert_takes(collector, order[-1], text, 0)

    def test_a_text_twice(self):
        collector = Collector()
        for _ in range(3):
            for octets in cut("x" * 400, 7)[:2]:
                self.assertIsNone(collector.take(octets))
            self.assert_takes(collector, cut("x" * 400, 7)[2], "x" * 400, 0)

    def test_parts_that_are_held_already(self):
        collector = Collector()
        self.assert_takes(collector, part(1, 3, 2, [98]), None, 1)
        self.assert_takes(collector, part(1, 3, 2, [98]), None, 1)
        self.assert_takes(collector, part(1, 3, 2, [120]), None, 1)
        self.assert_takes(collector, part(1, 3, 1, [97]), None, 2)
        self.assert_takes(collector, part(1, 3, 1, [121]), None, 2)
        self.assert_takes(collector, part(1, 3, 2, [122, 122]), None, 2)
        self.assert_takes(collector, part(1, 3, 3, [99]), "abc", 0)
        self.assert_takes(collector, part(1, 3, 2, [98]), None, 1)

    def test_what_belongs_together(self):
        collector = Collector()
        self.assert_takes(collector, part(1, 2, 1, [97]), None, 1)
        self.assert_takes(collector, part(2, 2, 2, [98]), None, 2)
        self.assert_takes(collector, part(1, 3, 2, [99]), None, 3)
        self.assert_takes(collector, part(1, 3, 1, [100]), None, 4)
        self.assert_takes(collector, part(1, 4, 1, [101]), None, 5)
        self.assert_takes(collector, part(2, 2, 1, [102]), "fb", 4)
        self.assert_takes(collector, part(1, 3, 3, [103]), "dcg", 2)
        self.assert_takes(collector, part(1, 2, 2, [104]), "ah", 1)
        self.assert_takes(collector, part(1, 4, 3, [105]), None, 2)

    def test_septets_are_read_across_the_parts(self):
        collector = Collector()
        self.assert_takes(collector, part(0, 2, 2, [60, 98]), None, 1)
        self.assert_takes(collector, part(0, 2, 1, [97, 27]), "a[b", 0)
        self.assert_takes(collector, part(0, 2, 1, [1, 27]), None, 1)
        self.assert_takes(collector, part(0, 2, 2, [27]), "??", 0)

    def test_the_order_of_the_numbers(self):
        collector = Collector()
        for number in (3, 1, 4):
            collector.take(part(250, 4, number, [96 + number, 64 + number]))
        self.assert_takes(collector, part(250, 4, 2, [98, 66]), "aAbBcCdD", 0)

    def test_the_twelfth_and_the_thirteenth_part(self):
        collector = self.filled()
        for octets in (letter(0, 4, 2), letter(1, 4, 1), letter(6, 2, 1), letter(0, 3, 1), letter(9, 4, 4)):
            self.assert_no_room(collector, octets)
            self.assert_no_room(collector, octets)
        self.assertEqual(collector.held, 12)

    def test_a_part_that_is_held_needs_no_room(self):
        collector = self.filled()
        for at in range(6):
            self.assert_takes(collector, letter(at, 4, 1 + at % 2), None, 12)
            self.assert_takes(collector, part(at, 4, 3 + at % 2, [63]), None, 12)

    def test_what_becomes_whole_needs_no_room(self):
        collector = Collector()
        for mark in range(12):
            self.assert_takes(collector, part(mark, 2, 1 + mark % 2, [97]), None, mark + 1)
        self.assert_no_room(collector, part(12, 2, 1, [97]))
        self.assert_takes(collector, cut("whole", 0)[0], "whole", 12)
        self.assert_takes(collector, part(5, 2, 1, [98]), "ba", 11)
        self.assert_takes(collector, part(12, 2, 1, [97]), None, 12)
        self.assert_no_room(collector, part(13, 2, 1, [97]))
        self.assert_takes(collector, part(12, 2, 2, [98]), "ab", 11)
        self.assert_takes(collector, part(0, 2, 2, [98]), "ab", 10)

    def test_a_long_text_that_becomes_whole_with_a_full_collector(self):
        collector = Collector()
        for number in (1, 2, 3):
            collector.take(part(0, 4, number, [96 + number]))
        for mark in range(1, 10):
            collector.take(part(mark, 4, 1, [97]))
        self.assertEqual(collector.held, 12)
        self.assert_no_room(collector, part(1, 4, 2, [98]))
        self.assert_takes(collector, part(0, 4, 4, [100]), "abcd", 9)
        for number in (2, 3):
            self.assertIsNone(collector.take(part(1, 4, number, [96 + number])))
        self.assert_takes(collector, part(2, 4, 4, [97]), None, 12)
        self.assert_no_room(collector, part(2, 4, 2, [97]))
        self.assert_takes(collector, part(1, 4, 4, [100]), "abcd", 9)

    def test_a_refused_part_leaves_nothing(self):
        collector = Collector()
        for mark in range(12):
            collector.take(part(mark, 2, 1, [97]))
        self.assert_no_room(collector, part(20, 2, 1, [120]))
        self.assert_takes(collector, part(0, 2, 2, [98]), "ab", 11)
        self.assert_takes(collector, part(20, 2, 2, [121]), None, 12)
        self.assert_takes(collector, part(20, 2, 1, [122]), "zy", 11)

    def test_octets_that_are_no_part(self):
        wrong = [(), (0,), (2, 1, 97), (0, 1, 225), (1, 8, 5, 0, 3, 1, 2, 3, 2), part(1, 2, 1, [97]) + (0,),
                 part(1, 2, 1, [97])[:-1], part(1, 5, 1, [97]), part(1, 1, 1, [97])]
        for collector in (Collector(), self.filled()):
            held = collector.held
            for octets in wrong:
                self.assert_bare(BadText, collector.take, octets)
                self.assertEqual(collector.held, held)
        collector = Collector()
        collector.take(part(1, 2, 1, [97]))
        for octets in wrong:
            self.assert_bare(BadText, collector.take, octets)
        self.assert_takes(collector, part(1, 2, 2, [98]), "ab", 0)

    def test_two_collectors_beside_each_other(self):
        first, second = Collector(), Collector()
        self.assert_takes(first, part(1, 2, 1, [97]), None, 1)
        self.assert_takes(second, part(1, 2, 2, [98]), None, 1)
        self.assert_takes(second, part(1, 2, 1, [99]), "cb", 0)
        self.assertEqual(first.held, 1)
        self.assert_takes(first, part(1, 2, 2, [100]), "ad", 0)

    def test_many_texts_in_any_order(self):
        for seed in range(60):
            chance = random.Random(seed)
            self.assert_like_by_hand([self.some_part(chance) for _ in range(120)])

    def some_part(self, chance):
        many = chance.choice((1, 2, 3, 4))
        row = [chance.choice((27, 60, chance.randrange(128))) for _ in range(chance.randrange(1, 4))]
        if many == 1:
            return (0, len(row), *pack(row, 0))
        return part(chance.choice((0, 1, 255)), many, chance.randrange(1, many + 1), row)

    def assert_like_by_hand(self, rows):
        """Take the parts one by one, beside a plain list of what is held."""
        collector, kept = Collector(), []
        for octets in rows:
            mark, many, number, row = read_part(octets)
            if many == 1:
                self.assert_takes(collector, octets, text_of(row), len(kept))
                continue
            same = [item for item in kept if item[:2] == (mark, many)]
            if number in [item[2] for item in same]:
                self.assert_takes(collector, octets, None, len(kept))
            elif len(same) + 1 == many:
                whole = sorted(same + [(mark, many, number, row)])
                kept = [item for item in kept if item[:2] != (mark, many)]
                text = text_of([septet for item in whole for septet in item[3]])
                self.assert_takes(collector, octets, text, len(kept))
            elif len(kept) == 12:
                self.assert_no_room(collector, octets)
            else:
                kept.append((mark, many, number, row))
                self.assert_takes(collector, octets, None, len(kept))


if __name__ == "__main__":
    unittest.main()
