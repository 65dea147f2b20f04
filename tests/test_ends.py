"""Ends of a link (points 53 and 55 to 61)."""

import random
import unittest

from mobileair.ends import End
from mobileair.errors import NotNow
from tests.helpers import ProgramTest, random_octets

SIZES = (1, 2, 19, 20, 21, 39, 40, 41, 60, 61, 100, 199, 200)


def message(count, seed=0):
    return random_octets(random.Random(1000 * seed + count), count)


def pieces_of(octets):
    """The pairs (more, octets) into which a message is cut."""
    rows = [octets[at:at + 20] for at in range(0, len(octets), 20)]
    return [(at + 1 < len(rows), row) for at, row in enumerate(rows)]


def rising(octets=(1, 2)):
    end = End(0)
    end.begin(octets)
    return end


def up(side):
    """An end of a side that is up, owes nothing and has no command."""
    if side == 0:
        end = rising()
        end.send()
        end.take(("accept",))
    else:
        end = End(1)
        end.take(("setup", (1, 2)))
        end.send()
        end.messages()
    return end


def failed(side, *given):
    """An end that has failed, with messages that wait."""
    end = up(side)
    for octets in given or [(7,)]:
        end.give(octets)
    for _ in range(19):
        end.send()
    return end


class EndTest(ProgramTest):
    def assert_end(self, end, state, idle):
        self.assertEqual((end.state, end.idle), (state, idle))
        self.assertIs(type(end.idle), bool)

    def assert_sends(self, end, *frames):
        self.assertEqual([end.send() for _ in frames], list(frames))

    def assert_not_now(self, what, function, *arguments):
        self.assert_raises_what(NotNow, what, function, *arguments)

    def assert_sends_piece(self, end, number, more, octets):
        """The end sends a piece; the other side answers that it has taken it."""
        self.assertEqual(end.send(), ("info", number % 8, 0, more, octets))
        end.take(("ready", (number + 1) % 8))


class StatesTest(EndTest):
    def test_at_first(self):
        for side in (0, 1):
            end = End(side)
            self.assert_end(end, "down", True)
            self.assertEqual(end.messages(), [])
            self.assert_sends(end, *[None] * 25)
            self.assert_end(end, "down", True)

    def test_begin(self):
        for octets in ((0,), (1, 2), message(19), message(20)):
            end = End(0)
            self.assertIsNone(end.begin(octets))
            self.assert_end(end, "rising", False)
            self.assert_sends(end, ("setup", octets), None, None, ("setup", octets))
            self.assertEqual(end.messages(), [])

    def test_begin_is_for_side_0_and_down_only(self):
        end = End(1)
        self.assert_not_now("begin", end.begin, (1,))
        self.assert_end(end, "down", True)
        self.assert_sends(end, None, None)
        for end in (up(0), up(1), failed(0), failed(1)):
            state, idle = end.state, end.idle
            self.assert_not_now("begin", end.begin, (1,))
            self.assert_end(end, state, idle)
            self.assert_sends(end, *[None] * 20)

    def test_a_second_begin_changes_nothing(self):
        end = rising((1, 2))
        self.assert_sends(end, ("setup", (1, 2)))
        self.assert_not_now("begin", end.begin, (3,))
        self.assert_end(end, "rising", False)
        self.assert_sends(end, None, None, ("setup", (1, 2)))

    def test_setup(self):
        end = End(1)
        self.assertIsNone(end.take(("setup", (5, 6))))
        self.assert_end(end, "up", True)
        self.assertEqual(end.messages(), [(5, 6)])
        self.assertEqual(end.messages(), [])
        self.assert_sends(end, ("accept",), None, None, None)

    def test_a_second_setup(self):
        end = End(1)
        end.take(("setup", (5, 6)))
        end.take(("setup", (7,)))
        self.assertEqual(end.messages(), [(5, 6)])
        self.assert_sends(end, ("accept",), None)
        end.take(("setup", (5, 6)))
        self.assert_end(end, "up", True)
        self.assertEqual(end.messages(), [])
        self.assert_sends(end, ("accept",), None)

    def test_accept(self):
        end = rising()
        self.assert_sends(end, ("setup", (1, 2)))
        self.assertIsNone(end.take(("accept",)))
        self.assert_end(end, "up", True)
        self.assert_sends(end, *[None] * 25)
        self.assertEqual(end.messages(), [])

    def test_accept_before_the_setup_is_sent(self):
        end = rising()
        end.take(("accept",))
        self.assert_end(end, "up", True)
        self.assert_sends(end, None, None)

    def test_two_ends_beside_each_other(self):
        first, second = End(0), End(0)
        first.begin((1,))
        self.assert_end(second, "down", True)
        first.take(("accept",))
        first.give((2,))
        second.begin((3,))
        self.assert_sends(first, ("info", 0, 0, False, (2,)))
        self.assert_sends(second, ("setup", (3,)))


class GiveTest(EndTest):
    def test_give_when_down_or_failed(self):
        for end in (End(0), End(1)):
            self.assert_not_now("give", end.give, (1,))
            self.assert_end(end, "down", True)
            self.assert_sends(end, *[None] * 3)
        end = End(0)
        self.assert_not_now("give", end.give, (1,))
        end.begin((9,))
        end.take(("accept",))
        self.assert_sends(end, None, None)
        for side in (0, 1):
            end = failed(side)
            self.assert_not_now("give", end.give, (1,))
            self.assert_end(end, "failed", False)

    def test_give_when_rising_and_up(self):
        for end in (rising(), up(0), up(1)):
            state = end.state
            self.assertIsNone(end.give((1,)))
            self.assert_end(end, state, False)

    def test_pieces_of_each_size(self):
        for side in (0, 1):
            for count in SIZES:
                end = up(side)
                octets = message(count)
                end.give(octets)
                pieces = pieces_of(octets)
                self.assertEqual(len(pieces), -(-count // 20))
                for number, (more, piece) in enumerate(pieces):
                    self.assert_end(end, "up", False)
                    self.assert_sends_piece(end, number, more, piece)
                self.assert_end(end, "up", True)
                self.assert_sends(end, None, None)

    def test_messages_behind_each_other(self):
        for side in (0, 1):
            end = up(side)
            given = [message(count, count) for count in SIZES]
            for octets in given:
                end.give(octets)
            number = 0
            for octets in given:
                for more, piece in pieces_of(octets):
                    self.assert_sends_piece(end, number, more, piece)
                    number += 1
            self.assertGreater(number, 16)
            self.assert_end(end, "up", True)

    def test_given_before_and_after_the_end_is_up(self):
        end = rising((1, 2))
        end.give((3,) * 21)
        self.assert_sends(end, ("setup", (1, 2)), None, None, ("setup", (1, 2)))
        end.give((4,))
        end.take(("accept",))
        self.assert_end(end, "up", False)
        end.give((5,))
        self.assert_sends_piece(end, 0, True, (3,) * 20)
        end.give((6,))
        self.assert_sends_piece(end, 1, False, (3,))
        self.assert_sends_piece(end, 2, False, (4,))
        self.assert_sends_piece(end, 3, False, (5,))
        self.assert_sends_piece(end, 4, False, (6,))
        self.assert_end(end, "up", True)

    def test_the_numbers_count_modulo_8(self):
        for side in (0, 1):
            end = up(side)
            for number in range(30):
                end.give((number,))
                self.assert_sends_piece(end, number, False, (number,))


class RepeatTest(EndTest):
    def pattern(self, frame):
        """What 19 sendings give while the command stands."""
        return [frame if at in (0, 3, 6, 9, 12, 15) else None for at in range(19)]

    def test_a_setup_that_is_never_answered(self):
        end = rising((8, 9))
        for at, frame in enumerate(self.pattern(("setup", (8, 9)))):
            self.assert_end(end, "rising", False)
            self.assertEqual(end.send(), frame, at)
        self.assert_end(end, "failed", True)
        self.assert_sends(end, *[None] * 25)

    def test_a_piece_that_is_never_answered(self):
        for side in (0, 1):
            end = up(side)
            self.assert_sends(end, None, None)
            end.give((7,))
            for at, frame in enumerate(self.pattern(("info", 0, 0, False, (7,)))):
                self.assert_end(end, "up", False)
                self.assertEqual(end.send(), frame, at)
            self.assert_end(end, "failed", False)
            self.assert_sends(end, *[None] * 25)

    def test_an_answer_that_comes_just_before(self):
        for sendings in range(1, 19):
            end = rising()
            for _ in range(sendings):
                end.send()
            end.take(("accept",))
            self.assert_end(end, "up", True)
            self.assert_sends(end, *[None] * 20)
            for side in (0, 1):
                end = up(side)
                end.give((7,))
                end.give((8,))
                for _ in range(sendings):
                    end.send()
                end.take(("ready", 1))
                self.assert_end(end, "up", False)
                self.assert_sends(end, *self.pattern(("info", 1, 0, False, (8,))))
                self.assert_end(end, "failed", False)

    def test_taking_frames_does_not_change_when_a_command_is_sent(self):
        end = up(0)
        end.give((7,))
        sent = []
        for _ in range(18):
            sent.append(end.send())
            end.take(("info", 5, 0, False, (1,)))
        commands = [at for at, frame in enumerate(sent) if frame is not None and frame[0] == "info"]
        self.assertEqual(commands, [0, 3, 6, 9, 12, 15])
        self.assertEqual([frame for at, frame in enumerate(sent) if at not in commands], [("ready", 0)] * 12)
        self.assertIsNone(end.send())
        self.assert_end(end, "failed", False)

    def test_a_failed_end_owes_nothing(self):
        end = up(1)
        end.give((7,))
        for _ in range(18):
            end.send()
        end.take(("info", 0, 0, False, (1,)))
        self.assertEqual(end.messages(), [(1,)])
        self.assert_sends(end, *[None] * 5)
        self.assert_end(end, "failed", False)

    def test_a_failed_end_takes_nothing(self):
        for side in (0, 1):
            end = failed(side, (7,))
            for frame in (("setup", (1,)), ("accept",), ("info", 0, 1, False, (2,)), ("info", 0, 0, False, (2,)),
                          ("ready", 1), ("ready", 0)):
                self.assertIsNone(end.take(frame))
                self.assert_end(end, "failed", False)
                self.assertEqual(end.messages(), [])
                self.assert_sends(end, None, None)
        end = rising()
        for _ in range(19):
            end.send()
        for frame in (("accept",), ("setup", (1,)), ("info", 0, 0, False, (2,)), ("ready", 1)):
            end.take(frame)
            self.assert_end(end, "failed", True)
            self.assertEqual(end.messages(), [])
            self.assert_sends(end, None, None)

    def test_what_waits_stays(self):
        end = rising()
        end.give((3,))
        for _ in range(19):
            end.send()
        self.assert_end(end, "failed", False)
        end.take(("accept",))
        self.assert_end(end, "failed", False)
        self.assert_sends(end, *[None] * 20)


class AnswerTest(EndTest):
    def test_the_due_command_goes_ahead_of_the_owed_answer(self):
        end = End(1)
        end.take(("setup", (1,)))
        end.give((2,))
        self.assert_sends(end, ("info", 0, 0, False, (2,)), ("accept",), None, ("info", 0, 0, False, (2,)))

    def test_an_info_takes_the_place_of_an_owed_ready(self):
        for side in (0, 1):
            end = up(side)
            end.take(("info", 0, 0, False, (5,)))
            end.give((2,))
            self.assert_sends(end, ("info", 0, 1, False, (2,)), None, None)
            end.take(("info", 1, 0, False, (5,)))
            self.assert_sends(end, ("info", 0, 2, False, (2,)), None, None, ("info", 0, 2, False, (2,)))

    def test_an_answer_is_sent_where_no_command_is_due(self):
        end = up(0)
        end.give((2,))
        self.assert_sends(end, ("info", 0, 0, False, (2,)))
        end.take(("info", 0, 0, False, (5,)))
        self.assert_sends(end, ("ready", 1))
        end.take(("info", 1, 0, False, (5,)))
        self.assert_sends(end, ("ready", 2), ("info", 0, 2, False, (2,)), None, None, ("info", 0, 2, False, (2,)))

    def test_one_answer_at_most_is_owed(self):
        end = up(1)
        for s in (0, 1, 2, 7):
            end.take(("info", s, 0, False, (s,)))
        self.assert_sends(end, ("ready", 3), None, None)
        end.take(("info", 3, 0, False, (9,)))
        end.take(("setup", (1, 2)))
        self.assert_sends(end, ("accept",), None, None)
        end.take(("setup", (1, 2)))
        end.take(("info", 4, 0, False, (9,)))
        self.assert_sends(end, ("ready", 5), None, None)

    def test_an_owed_accept_stays_behind_an_info(self):
        end = up(1)
        end.give((2,))
        end.take(("info", 0, 0, False, (9,)))
        end.take(("setup", (1, 2)))
        self.assert_sends(end, ("info", 0, 1, False, (2,)), ("accept",), None, ("info", 0, 1, False, (2,)))

    def test_nothing_is_owed_for_a_ready_and_an_accept(self):
        end = up(0)
        end.give((2,))
        self.assert_sends(end, ("info", 0, 0, False, (2,)))
        end.take(("ready", 1))
        self.assert_sends(end, None, None)
        end.take(("accept",))
        end.take(("ready", 1))
        self.assert_sends(end, None, None)


class TakeTest(EndTest):
    """What an end takes in states in which it changes nothing, and what changes it."""

    def test_setup_at_side_0(self):
        end = End(0)
        end.take(("setup", (1,)))
        self.assert_end(end, "down", True)
        self.assert_sends(end, None, None)
        end = rising()
        end.take(("setup", (1,)))
        self.assert_end(end, "rising", False)
        self.assert_sends(end, ("setup", (1, 2)), None, None, ("setup", (1, 2)))
        end = up(0)
        end.take(("setup", (1,)))
        self.assert_end(end, "up", True)
        self.assert_sends(end, None, None)
        for end in (End(0), rising(), up(0)):
            end.take(("setup", (1,)))
            self.assertEqual(end.messages(), [])

    def test_accept_where_it_changes_nothing(self):
        for side in (0, 1):
            end = End(side)
            end.take(("accept",))
            self.assert_end(end, "down", True)
            end = up(side)
            end.take(("accept",))
            self.assert_end(end, "up", True)
            end.give((7,))
            self.assert_sends(end, ("info", 0, 0, False, (7,)))
            end.take(("accept",))
            self.assert_end(end, "up", False)
            self.assert_sends(end, None, None, ("info", 0, 0, False, (7,)))

    def test_info_and_ready_when_down_and_rising(self):
        for end in (End(0), End(1)):
            for frame in (("info", 0, 0, False, (1,)), ("info", 0, 1, False, (1,)), ("ready", 0), ("ready", 1)):
                end.take(frame)
                self.assert_end(end, "down", True)
                self.assertEqual(end.messages(), [])
                self.assert_sends(end, None, None)
        end = rising()
        end.give((4,))
        for frame in (("info", 0, 0, False, (1,)), ("info", 0, 1, False, (1,)), ("ready", 0), ("ready", 1)):
            end.take(frame)
            self.assert_end(end, "rising", False)
            self.assertEqual(end.messages(), [])
        self.assert_sends(end, ("setup", (1, 2)), None, None)
        end.take(("accept",))
        self.assert_sends_piece(end, 0, False, (4,))
        end.take(("info", 0, 1, False, (6,)))
        self.assertEqual(end.messages(), [(6,)])

    def test_only_the_following_number_finishes_a_piece(self):
        for side in (0, 1):
            for done in range(9):
                for r in range(8):
                    for frame in (("ready", r), ("info", 3, r, False, (1,))):
                        end = up(side)
                        for number in range(done):
                            end.give((number,))
                            self.assert_sends_piece(end, number, False, (number,))
                        end.give((77,))
                        end.give((78,))
                        self.assertEqual(end.send()[1:], (done % 8, 0, False, (77,)))
                        end.take(frame)
                        sent = [found for found in (end.send(), end.send(), end.send()) if found]
                        pieces = [(found[1], found[4]) for found in sent if found[0] == "info"]
                        right = r == (done + 1) % 8
                        self.assertEqual(pieces, [(r, (78,))] if right else [(done % 8, (77,))])

    def test_a_right_number_without_a_command(self):
        for side in (0, 1):
            for frame in (("ready", 1), ("info", 5, 1, False, (1,))):
                end = up(side)
                end.give((7,))
                end.take(frame)
                self.assert_end(end, "up", False)
                self.assert_sends(end, ("info", 0, 0, False, (7,)))
                end.take(("ready", 1))
                self.assert_end(end, "up", True)

    def test_an_info_finishes_a_piece_and_brings_one(self):
        for side in (0, 1):
            end = up(side)
            end.give((7,))
            end.give((8,))
            self.assert_sends(end, ("info", 0, 0, False, (7,)))
            end.take(("info", 0, 1, False, (1,)))
            self.assertEqual(end.messages(), [(1,)])
            self.assert_sends(end, ("info", 1, 1, False, (8,)), None)

    def test_an_info_that_is_not_the_next_one(self):
        for side in (0, 1):
            for s in range(1, 8):
                end = up(side)
                end.take(("info", s, 0, False, (1,)))
                self.assertEqual(end.messages(), [])
                self.assert_sends(end, ("ready", 0), None)
                end.take(("info", 0, 0, False, (2,)))
                self.assertEqual(end.messages(), [(2,)])
                self.assert_sends(end, ("ready", 1), None)

    def test_an_info_that_is_not_the_next_one_finishes_a_piece(self):
        end = up(0)
        end.give((7,))
        end.send()
        end.take(("info", 6, 1, False, (1,)))
        self.assert_end(end, "up", True)
        self.assertEqual(end.messages(), [])
        self.assert_sends(end, ("ready", 0), None)

    def test_an_info_that_is_taken_twice(self):
        for side in (0, 1):
            end = up(side)
            for number in range(20):
                for _ in range(2):
                    end.take(("info", number % 8, 0, False, (number,)))
                    self.assert_sends(end, ("ready", (number + 1) % 8))
                self.assertEqual(end.messages(), [(number,)])

    def test_whole_messages_and_their_order(self):
        for side in (0, 1):
            end = up(side)
            given = [message(count, 3) for count in SIZES] + [message(200, 4)]
            number = 0
            come = []
            for octets in given:
                for more, piece in pieces_of(octets):
                    end.take(("info", number % 8, 0, more, piece))
                    number += 1
                    self.assert_sends(end, ("ready", number % 8))
                    if more:
                        self.assertEqual(end.messages(), [])
                come += end.messages()
            self.assertEqual(come, given)

    def test_messages_are_given_once(self):
        end = End(1)
        end.take(("setup", (9,)))
        end.take(("info", 0, 0, True, (1,) * 20))
        end.take(("info", 1, 0, False, (2,)))
        end.take(("info", 2, 0, False, (3,)))
        end.take(("info", 3, 0, True, (4,) * 20))
        come = end.messages()
        self.assertEqual(come, [(9,), (1,) * 20 + (2,), (3,)])
        self.assertIs(type(come), list)
        self.assertEqual([type(octets) for octets in come], [tuple] * 3)
        come.append((8,))
        self.assertEqual(end.messages(), [])
        end.take(("info", 4, 0, False, (5,)))
        self.assertEqual(end.messages(), [(4,) * 20 + (5,)])
        self.assertEqual(end.messages(), [])

    def test_several_frames_between_two_sendings(self):
        end = up(0)
        end.give((7,) * 41)
        self.assert_sends(end, ("info", 0, 0, True, (7,) * 20))
        end.take(("info", 0, 1, False, (1,)))
        end.take(("ready", 1))
        end.take(("ready", 2))
        end.take(("info", 1, 2, False, (2,)))
        self.assertEqual(end.messages(), [(1,), (2,)])
        self.assert_sends(end, ("info", 1, 2, True, (7,) * 20), None)
        end.take(("ready", 2))
        end.take(("ready", 3))
        self.assert_sends(end, ("info", 2, 2, False, (7,)))
        end.take(("ready", 3))
        self.assert_end(end, "up", True)


class IdleTest(EndTest):
    def test_idle(self):
        end = End(0)
        self.assert_end(end, "down", True)
        end.begin((1,))
        self.assert_end(end, "rising", False)
        end.take(("accept",))
        self.assert_end(end, "up", True)
        end.take(("info", 0, 0, False, (4,)))
        self.assert_end(end, "up", True)
        end.give((2,))
        self.assert_end(end, "up", False)
        end.send()
        self.assert_end(end, "up", False)
        end.take(("ready", 1))
        self.assert_end(end, "up", True)

    def test_idle_of_failed_ends(self):
        end = rising()
        for _ in range(19):
            end.send()
        self.assert_end(end, "failed", True)
        for side in (0, 1):
            self.assert_end(failed(side, (1,), (2,)), "failed", False)


class PlainEnd:
    """An end, written down as a list of what is to be sent; for comparison."""

    def __init__(self, side):
        self.side, self.state = side, "down"
        self.s = self.r = 0
        self.waiting, self.schedule, self.owed = [], [], None
        self.part, self.come = [], []

    def stand(self, command):
        self.schedule = [command if at % 3 == 0 else "wait" for at in range(18)] + ["fail"]

    def begin(self, octets):
        self.state = "rising"
        self.stand(("setup", octets))

    def give(self, octets):
        self.waiting += pieces_of(octets)

    def send(self):
        if self.state == "up" and not self.schedule and self.waiting:
            more, octets = self.waiting[0]
            self.stand(("info", self.s, None, more, octets))
        step = self.schedule.pop(0) if self.schedule else "wait"
        if step == "fail":
            self.state, self.owed = "failed", None
            return None
        if step == "wait":
            answer, self.owed = self.owed, None
            return answer
        if step[0] == "info":
            if self.owed and self.owed[0] == "ready":
                self.owed = None
            return ("info", step[1], self.r, *step[3:])
        return step

    def take(self, frame):
        if frame[0] == "setup" and self.side == 1 and self.state in ("down", "up"):
            if self.state == "down":
                self.state = "up"
                self.come.append(frame[1])
            self.owed = ("accept",)
        if frame[0] == "accept" and self.state == "rising":
            self.state, self.schedule = "up", []
        if frame[0] in ("info", "ready") and self.state == "up":
            if self.schedule and frame[{"info": 2, "ready": 1}[frame[0]]] == (self.s + 1) % 8:
                self.waiting, self.schedule, self.s = self.waiting[1:], [], (self.s + 1) % 8
            if frame[0] == "info":
                if frame[1] == self.r:
                    self.r = (self.r + 1) % 8
                    self.part += frame[4]
                    if not frame[3]:
                        self.come.append(tuple(self.part))
                        self.part = []
                self.owed = ("ready", self.r)


class AnyOrderTest(EndTest):
    def some_frame(self, chance, plain):
        near = plain.r if chance.randrange(3) else chance.randrange(8)
        r = (plain.s + chance.choice((0, 1, 1, 1))) % 8 if chance.randrange(4) else chance.randrange(8)
        return chance.choice((
            ("setup", (chance.randrange(256),)), ("accept",), ("ready", r), ("ready", r),
            ("info", near, r, chance.random() < 0.3, random_octets(chance, chance.randrange(1, 21))),
        ))

    def test_any_frames_at_any_time(self):
        for seed in range(400):
            chance = random.Random(seed)
            end, plain = End(seed % 2), PlainEnd(seed % 2)
            often = chance.choice((0.1, 0.3, 0.6))
            for _ in range(chance.choice((40, 120))):
                if plain.state == "down" and seed % 2 == 0 and chance.randrange(3) == 0:
                    end.begin((seed % 256,))
                    plain.begin((seed % 256,))
                if plain.state in ("rising", "up") and chance.random() < 0.15:
                    octets = random_octets(chance, chance.choice((1, 20, 21, 45)))
                    end.give(octets)
                    plain.give(octets)
                while chance.random() < often:
                    frame = self.some_frame(chance, plain)
                    end.take(frame)
                    plain.take(frame)
                self.assertEqual(end.send(), plain.send())
                self.assert_end(end, plain.state, not plain.waiting and not plain.schedule)
                if chance.randrange(4) == 0 and plain.state != "failed":
                    self.assertEqual(end.messages(), plain.come)
                    plain.come = []


if __name__ == "__main__":
    unittest.main()
