"""Lines (points 54, 62 and 63)."""

import random
import unittest

from mobileair.ends import End
from mobileair.line import Line
from tests.helpers import ProgramTest, random_octets


def set_up(octets=(1, 2)):
    """A line on which both ends are up and nothing is under way."""
    line = Line()
    line.end(0).begin(octets)
    for _ in range(3):
        line.tick(0)
    line.end(1).messages()
    return line


class TickTest(ProgramTest):
    def assert_ticks(self, line, *pairs):
        self.assertEqual([line.tick(0) for _ in pairs], list(pairs))

    def test_the_ends(self):
        line = Line()
        for side in (0, 1):
            self.assertIs(type(line.end(side)), End)
            self.assertIs(line.end(side), line.end(side))
            self.assertEqual(line.end(side).state, "down")
        self.assertIsNot(line.end(0), line.end(1))
        line.end(0).begin((1,))
        self.assertEqual([line.end(0).state, line.end(1).state], ["rising", "down"])
        other = Line()
        self.assertEqual([other.end(0).state, other.end(1).state], ["down", "down"])

    def test_a_line_that_is_down(self):
        line = Line()
        for lost in (0, 1, 2, 3):
            sent = line.tick(lost)
            self.assertEqual(sent, (None, None))
            self.assertIs(type(sent), tuple)

    def test_both_send_before_either_takes(self):
        line = Line()
        line.end(0).begin((1, 2))
        self.assert_ticks(line, (("setup", (1, 2)), None))
        self.assertEqual([line.end(0).state, line.end(1).state], ["rising", "up"])
        self.assertEqual(line.end(1).messages(), [(1, 2)])
        line.end(0).give((3,))
        line.end(1).give((4,))
        self.assert_ticks(line, (None, ("info", 0, 0, False, (4,))))
        self.assert_ticks(line, (None, ("accept",)))
        self.assertEqual(line.end(0).state, "up")
        self.assert_ticks(line, (("info", 0, 0, False, (3,)), None), (None, ("info", 0, 1, False, (4,))))
        self.assertEqual(line.end(0).messages(), [(4,)])
        self.assertEqual(line.end(1).messages(), [(3,)])
        self.assert_ticks(line, (("ready", 1), None), (None, None))
        self.assertEqual([line.end(0).idle, line.end(1).idle], [True, True])

    def test_both_send_in_one_tick(self):
        line = set_up()
        line.end(0).give((3,))
        line.end(1).give((4,))
        line.end(0).give((5,))
        line.end(1).give((6,))
        self.assert_ticks(line, (("info", 0, 0, False, (3,)), ("info", 0, 0, False, (4,))))
        self.assertEqual([line.end(0).messages(), line.end(1).messages()], [[(4,)], [(3,)]])
        self.assert_ticks(line, (("ready", 1), ("ready", 1)))
        self.assert_ticks(line, (("info", 1, 1, False, (5,)), ("info", 1, 1, False, (6,))))
        self.assertEqual([line.end(0).messages(), line.end(1).messages()], [[(6,)], [(5,)]])
        self.assert_ticks(line, (("ready", 2), ("ready", 2)), (None, None))

    def test_what_is_lost(self):
        for lost in (0, 1, 2, 3):
            line = set_up()
            line.end(0).give((3,))
            line.end(1).give((4,))
            self.assertEqual(line.tick(lost), (("info", 0, 0, False, (3,)), ("info", 0, 0, False, (4,))))
            self.assertEqual(line.end(1).messages(), [] if lost in (1, 3) else [(3,)])
            self.assertEqual(line.end(0).messages(), [] if lost in (2, 3) else [(4,)])

    def test_what_is_lost_is_sent_again(self):
        line = Line()
        line.end(0).begin((1,))
        sent = [line.tick(1 if at < 4 else 0) for at in range(8)]
        self.assertEqual([pair[0] for pair in sent],
                         [("setup", (1,)), None, None, ("setup", (1,)), None, None, ("setup", (1,)), None])
        self.assertEqual([pair[1] for pair in sent], [None] * 7 + [("accept",)])
        self.assertEqual(line.end(0).state, "up")

    def test_lost_out_of_range(self):
        line = Line()
        line.end(0).begin((1,))
        for lost in (-1, 4, 5, -4, 100):
            self.assert_out_of_range("lost", line.tick, lost)
        self.assertEqual(line.end(1).state, "down")
        self.assert_ticks(line, (("setup", (1,)), None), (None, ("accept",)), (None, None))
        line.end(0).give((2,))
        for _ in range(40):
            self.assert_out_of_range("lost", line.tick, 4)
        self.assertEqual([line.end(0).state, line.end(1).messages()], ["up", [(1,)]])
        self.assert_ticks(line, (("info", 0, 0, False, (2,)), None))

    def test_a_line_without_losses_brings_everything(self):
        for first, second in ((1, 200), (20, 21), (200, 200), (41, 40)):
            line = set_up()
            there = [tuple([at % 256] * first) for at in range(12)]
            back = [tuple([at % 256] * second) for at in range(9)]
            for octets in there:
                line.end(0).give(octets)
            for octets in back:
                line.end(1).give(octets)
            for _ in range(600):
                line.tick(0)
            self.assertEqual(line.end(1).messages(), there)
            self.assertEqual(line.end(0).messages(), back)
            self.assertEqual([(line.end(side).state, line.end(side).idle) for side in (0, 1)], [("up", True)] * 2)

    def test_losses_end_a_line(self):
        line = set_up()
        line.end(0).give((3,))
        line.end(1).give((4,))
        for _ in range(18):
            line.tick(3)
            self.assertEqual([line.end(0).state, line.end(1).state], ["up", "up"])
        self.assertEqual(line.tick(3), (None, None))
        self.assertEqual([line.end(0).state, line.end(1).state], ["failed", "failed"])
        self.assertEqual([line.end(0).idle, line.end(1).idle], [False, False])
        for _ in range(5):
            self.assertEqual(line.tick(0), (None, None))
        self.assertEqual([line.end(0).messages(), line.end(1).messages()], [[], []])


class LossesTest(ProgramTest):
    def some_messages(self, chance):
        return [random_octets(chance, chance.choice((1, 5, 20, 21, 40, 63, 200))) for _ in range(chance.randrange(8))]

    def losses(self, chance, count):
        """A pattern of losses: by chance, in bursts, or over and over the same."""
        way = chance.randrange(4)
        if way == 0:
            return [chance.choice((0, 0, 0, 1, 2, 3)) for _ in range(count)]
        if way == 1:
            return [3 if at // 9 % 2 else 0 for at in range(count)]
        if way == 2:
            row = [chance.randrange(4) for _ in range(chance.randrange(1, 8))]
            return [row[at % len(row)] for at in range(count)]
        return [chance.choice((0, 1, 2)) for _ in range(count)]

    def assert_brings(self, seed):
        chance = random.Random(seed)
        line = Line()
        begun = random_octets(chance, chance.randrange(1, 21))
        line.end(0).begin(begun)
        given, come = ([begun], []), ([], [])
        for lost in self.losses(chance, 300) + [0] * 300:
            for side in (0, 1):
                if line.end(side).state in ("rising", "up") and chance.random() < 0.05 and len(given[side]) < 12:
                    for octets in self.some_messages(chance):
                        line.end(side).give(octets)
                        given[side].append(octets)
            line.tick(lost)
            for side in (0, 1):
                come[side].extend(line.end(side).messages())
                self.assertEqual(come[side], given[1 - side][:len(come[side])], seed)
        states = [line.end(side).state for side in (0, 1)]
        if states == ["up", "up"]:
            self.assertTrue(line.end(0).idle and line.end(1).idle, seed)
            self.assertEqual(come, (given[1], given[0]), seed)
        return states

    def test_what_has_come_is_the_first_of_what_was_given(self):
        states = [self.assert_brings(seed) for seed in range(250)]
        self.assertGreater(states.count(["up", "up"]), 50)
        self.assertGreater(sum(1 for pair in states if "failed" in pair), 10)

    def test_every_short_pattern_of_losses(self):
        for number in range(4 ** 5):
            pattern = [number >> (2 * at) & 3 for at in range(5)]
            line = Line()
            line.end(0).begin((1,))
            line.end(0).give((2,) * 21)
            line.end(0).give((3,))
            given = False
            come = ([], [])
            for lost in [0] + pattern + [0] * 40:
                if not given and line.end(1).state == "up":
                    line.end(1).give((4,) * 40)
                    line.end(1).give((5,))
                    given = True
                line.tick(lost)
                for side in (0, 1):
                    come[side].extend(line.end(side).messages())
            self.assertEqual(come, ([(4,) * 40, (5,)], [(1,), (2,) * 21, (3,)]))


if __name__ == "__main__":
    unittest.main()
