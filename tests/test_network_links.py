"""Links in the network: the steps of a tick, losses and their ends (points 118 and 121 to 126)."""

import random
import unittest
from unittest import mock

from mobileair.bursts import code_block
from tests.networks import NetworkTest, all_answers, built, number_of, settle, settled, talk, talking

TWO = [[30, 0], [0, 30]]


class ClearAirTest(NetworkTest):
    def test_the_ticks_of_an_area_update(self):
        network = built([[30]], areas=[2])
        rows = []
        for _ in range(7):
            network.tick()
            released = [link[4] for link in network.links()]
            rows.append((network.channel(0), released, network.area(0), network.known_area(0), network.channel_state(0, 0)))
        # The message comes in tick 0 and is answered at once, but the phone is up only in tick 1, and the answer
        # is sent again in tick 3; the release is sent in tick 4, and both links end in tick 5.
        self.assertEqual(rows, [
            ((0, 0), [True], 2, None, "held"), ((0, 0), [True], 2, None, "held"), ((0, 0), [True], 2, None, "held"),
            ((0, 0), [True], 2, 2, "held"), ((0, 0), [True], 2, 2, "held"), (None, [], 2, 2, "rests"),
            (None, [], 2, 2, "rests"),
        ])

    def test_the_ticks_of_a_call(self):
        network = settled(TWO, areas=[0, 0])
        network.dial(0, number_of(1))
        wanted = [("starting", "idle", [])] * 4 + [("looking", "idle", [(0, 1, "looking")])]
        wanted += [("looking", "idle", [(0, 1, "offered")])] * 3 + [("looking", "ringing", [(0, 1, "offered")])]
        wanted += [("alerting", "ringing", [(0, 1, "ringing")])] * 3
        self.assert_ticks(network, lambda: (network.call_state(0), network.call_state(1), network.calls()), *wanted)
        network.answer(1)
        wanted = [("active", "active", [(0, 1, "answered")])] + [("active", "active", [(0, 1, "active")])] * 3
        self.assert_ticks(network, lambda: (network.call_state(0), network.call_state(1), network.calls()), *wanted)
        self.assertEqual(network.lines(), [(0, 1, network.ticks - 3, None, None)])
        self.assertEqual(network.links(), [(0, 0, (0, 0), None, False), (1, 1, (1, 0), None, False)])

    def test_the_ticks_of_a_release(self):
        network = talking(TWO)
        network.hang(1)
        begun = network.lines()[0][2]
        tick = network.ticks
        rows = []
        for _ in range(3):
            network.tick()
            rows.append((network.call_state(0), network.call_state(1), network.calls(),
                         [(link[0], link[4]) for link in network.links()]))
        # The disconnect of phone 1 comes at once. Phone 1 is told the release in the same tick, phone 0 first the
        # disconnect, and the release in the next one.
        self.assertEqual(rows, [
            ("idle", "clearing", [], [(0, True), (1, True)]), ("idle", "idle", [], [(0, True)]), ("idle", "idle", [], []),
        ])
        self.assertEqual([network.call_cause(0), network.call_cause(1)], [16, 16])
        self.assertEqual(network.lines(), [(0, 1, begun, tick, 16)])
        self.assertEqual(network.units(0), 1 + (tick - begun) // 10)

    def test_the_ticks_of_words(self):
        network = talking(TWO)
        for word in ((1,), (2,), (3,)):
            network.say(0, word)
        network.say(1, (9,) * 40)
        found = []
        for _ in range(7):
            network.tick()
            found.append((len(network.words_heard(1)), len(network.words_heard(0))))
        # A word of one piece is heard in its tick, and the next one is sent when the answer has come. A word of 42
        # octets has three pieces up and then three pieces down.
        self.assertEqual(found, [(1, 0), (2, 0), (3, 0), (3, 0), (3, 1), (3, 1), (3, 1)])
        self.assertEqual(network.words_heard(1), ((1,), (2,), (3,)))
        self.assertEqual(network.words_heard(0), ((9,) * 40,))

    def test_phones_are_visited_in_ascending_order(self):
        network = settled([[30, 0, 0], [0, 30, 0], [0, 0, 30]], areas=[0, 0, 0])
        network.dial(1, number_of(0))
        network.dial(0, number_of(1))
        network.tick(5)
        # Both setups come in the same tick; that of phone 0 is the first, and its goal has a link.
        network.tick(10)
        self.assertEqual([network.call_cause(0), network.call_cause(1)], [17, 17])
        network.dial(1, number_of(2))
        network.dial(0, number_of(2))
        network.tick(5)
        self.assertEqual(network.calls(), [(0, 2, "looking")])
        network.tick(1)
        self.assertEqual([network.call_state(1), network.call_cause(1)], ["idle", 17])

    def test_channels_rest_ten_ticks(self):
        network = built([[30]])
        self.first_tick(network, lambda: network.channel_state(0, 0) == "held")
        end = self.first_tick(network, lambda: network.channel_state(0, 0) == "rests")
        free = self.first_tick(network, lambda: network.channel_state(0, 0) == "free")
        # Behind tick n the answer is that of tick n + 1, and the tick of letting go is the first of the ten.
        self.assertEqual(free + 1 - end, 10)


class LossTest(NetworkTest):
    """Phone 0 has called phone 1; the blocks of phone 0 are lost."""

    def after_losses(self, way, count, more=0):
        network = talking(TWO)
        network.lose(0, way, count)
        network.tick(count + more)
        return network

    def test_fewer_than_12_blocks_up(self):
        for count in range(1, 12):
            network = self.after_losses("up", count, 30)
            self.assert_talking(network, 0, 1)
            self.assertEqual(len(network.links()), 2)

    def test_fewer_than_8_blocks_down(self):
        for count in range(1, 8):
            network = self.after_losses("down", count, 30)
            self.assert_talking(network, 0, 1)
            self.assertEqual(len(network.links()), 2)

    def test_losses_that_are_not_in_a_row(self):
        for way, count in (("up", 11), ("down", 7)):
            network = talking(TWO)
            for _ in range(6):
                network.lose(0, way, count)
                network.tick(count + 1)
            self.assert_talking(network, 0, 1)

    def test_8_blocks_down(self):
        for count in (8, 9, 20):
            network = self.after_losses("down", 7)
            self.assert_talking(network, 0, 1)
            network.lose(0, "down", count - 7)
            network.tick()
            self.assertEqual([network.call_state(0), network.call_cause(0), network.channel(0)], ["idle", 27, None])
            self.assertEqual([network.camp(0), network.wants(0)], [0, []])
            # The network link goes on until it has taken no block in 12 ticks.
            self.assertEqual(network.calls(), [(0, 1, "active")])
            network.tick(11)
            self.assertEqual([network.calls(), len(network.links())], [[(0, 1, "active")], 2])
            tick = network.ticks
            network.tick()
            self.assertEqual(network.calls(), [])
            self.assertEqual(network.lines()[0][3:], (tick, 27))
            self.assertEqual([(link[0], link[4]) for link in network.links()], [(1, True)])
            self.assertEqual(network.channel_state(0, 0), "rests")
            network.tick(1)
            self.assertEqual([network.call_state(1), network.call_cause(1)], ["idle", 27])
            settle(network, 2)

    def test_12_blocks_up(self):
        for count in (12, 13, 20, 40):
            network = self.after_losses("up", 11)
            self.assert_talking(network, 0, 1)
            network.lose(0, "up", count - 11)
            tick = network.ticks
            network.tick()
            self.assertEqual([network.calls(), network.lines()[0][3:]], [[], (tick, 27)])
            self.assertEqual([link[0] for link in network.links()], [1])
            # Phone 0 has taken a block in this tick still, and keeps its channel, which rests.
            self.assertEqual([network.call_state(0), network.channel(0)], ["active", (0, 0)])
            self.assertEqual(network.channel_state(0, 0), "rests")
            network.tick(7)
            self.assertEqual([network.call_state(0), network.channel(0)], ["active", (0, 0)])
            self.assertEqual([network.call_state(1), network.call_cause(1)], ["idle", 27])
            network.tick(1)
            self.assertEqual([network.call_state(0), network.call_cause(0), network.channel(0)], ["idle", 27, None])
            settle(network, 2)

    def test_a_level_below_5(self):
        for level, ticks, stays in ((5, 60, True), (4, 7, True), (4, 8, False), (0, 7, True), (0, 20, False)):
            network = talking(TWO)
            network.set_level(0, 0, level)
            network.tick(ticks)
            network.set_level(0, 0, 30)
            network.tick(40)
            if stays:
                self.assert_talking(network, 0, 1)
            else:
                self.assert_states(network, "idle", "idle")
                self.assertEqual([network.call_cause(0), network.call_cause(1), network.calls()], [27, 27, []])

    def test_the_tick_in_which_a_link_begins_counts(self):
        network = settled(TWO)
        network.lose(0, "down", 100)
        network.lose(0, "up", 100)
        network.text(0, "99", "a")
        self.assert_ticks(network, lambda: network.channel(0) is None, *[False] * 7, True)
        self.assertEqual(len(network.links()), 1)
        network = settled(TWO)
        network.lose(0, "up", 100)
        network.text(0, "99", "a")
        self.assert_ticks(network, lambda: len(network.links()), *[1] * 11, 0)

    def test_a_link_of_which_nothing_comes(self):
        network = settled(TWO)
        network.lose(0, "up", 100)
        network.dial(0, number_of(1))
        network.tick()
        # Nobody is known for the network link; the phone loses its link 8 ticks behind the end of that one,
        # or when its end fails, 18 ticks behind the first one, whatever comes first.
        self.assertEqual(network.links(), [(0, None, (0, 0), None, False)])
        network.tick(17)
        self.assertEqual([network.channel(0), network.call_state(0)], [(0, 0), "starting"])
        network.tick()
        self.assertEqual([network.channel(0), network.call_state(0), network.call_cause(0)], [None, "idle", 27])

    def test_a_lost_link_in_each_state_of_a_call(self):
        for ticks, states in ((2, ("starting", "idle")), (5, ("looking", "idle")), (9, ("looking", "ringing")),
                              (10, ("alerting", "ringing"))):
            for phone in (0, 1):
                network = settled(TWO)
                network.dial(0, number_of(1))
                network.tick(ticks)
                self.assert_states(network, *states)
                if network.channel(phone) is None:
                    continue
                network.lose(phone, "down", 100)
                network.tick(8)
                self.assertEqual([network.call_state(phone), network.call_cause(phone)], ["idle", 27])
                self.assertIsNone(network.channel(phone))
                network.lose(phone, "down", 0)
                network.tick(60)
                self.assert_states(network, "idle", "idle")
                self.assertEqual([network.links(), network.calls(), network.page(1), network.lines()], [[], [], None, []])

    def test_a_lost_link_of_a_phone_that_still_wants_a_call(self):
        network = settled(TWO)
        network.set_level(0, 0, 0)
        network.set_level(0, 1, 30)
        network.dial(0, "99")
        network.tick()
        network.lose(0, "down", 8)
        network.tick(7)
        self.assertEqual(network.channel(0), (1, 0))
        network.tick(1)
        self.assertEqual([network.channel(0), network.call_state(0), network.wants(0)], [None, "starting", ["area", "call"]])
        settle(network, 2)
        self.assertEqual([network.call_state(0), network.call_cause(0), network.known_area(0)], ["idle", 1, 1])

    def test_leaving_a_link_of_a_phone_that_still_wants_a_call(self):
        network = settled(TWO)
        network.set_level(0, 0, 0)
        network.set_level(0, 1, 30)
        network.dial(0, number_of(1))
        network.tick(6)
        self.assertEqual([network.channel(0), network.call_state(0), network.wants(0)], [None, "starting", ["call"]])
        self.first_tick(network, lambda: network.call_state(1) == "ringing")


class FailedEndTest(NetworkTest):
    def test_the_end_of_a_phone(self):
        network = talking(TWO)
        network.say(0, (1,))
        for _ in range(6):
            # What answers the word is lost each time.
            network.lose(0, "down", 1)
            network.tick(3)
        self.assert_talking(network, 0, 1)
        network.tick()
        self.assertEqual([network.call_state(0), network.call_cause(0), network.channel(0)], ["idle", 27, None])
        self.assertEqual(network.words_heard(1), ((1,),))
        self.assertEqual(network.calls(), [(0, 1, "active")])
        network.tick(11)
        self.assertEqual(len(network.links()), 2)
        network.tick()
        self.assertEqual([network.calls(), len(network.links())], [[], 1])

    def test_one_answer_is_enough(self):
        network = talking(TWO)
        network.say(0, (1,))
        for _ in range(5):
            network.lose(0, "down", 1)
            network.tick(3)
        network.tick(40)
        self.assert_talking(network, 0, 1)
        self.assertEqual(network.words_heard(1), ((1,),))

    def test_the_end_of_a_network_link(self):
        network = talking(TWO)
        network.say(1, (1,))
        network.tick()
        for _ in range(6):
            network.lose(0, "up", 1)
            network.tick(3)
        self.assertEqual(network.words_heard(0), ((1,),))
        # The end fails in the tick of the seventh sending; the link ends as lost in it.
        self.assertEqual(network.calls(), [])
        self.assertEqual(network.lines()[0][3:], (network.ticks - 1, 27))
        self.assertEqual([link[0] for link in network.links()], [1])
        self.assertEqual([network.call_state(0), network.channel(0)], ["active", (0, 0)])
        network.tick(7)
        self.assertEqual(network.call_state(0), "active")
        network.tick()
        self.assertEqual([network.call_state(0), network.call_cause(0)], ["idle", 27])

    def test_a_released_link_that_cannot_end(self):
        network = talking(TWO)
        network.hang(1)
        network.tick()
        network.lose(0, "up", 100)
        network.tick(3)
        self.assertEqual([network.channel(0), [(link[0], link[4]) for link in network.links()]], [(0, 0), [(0, True)]])
        network.tick(3)
        network.lose(0, "up", 0)
        network.tick(6)
        self.assertEqual(network.links(), [])


class HarmTest(NetworkTest):
    def test_up_to_three_flipped_bits_change_nothing(self):
        chance = random.Random(12)
        clear, harmed = built(TWO), built(TWO)
        for step in range(70):
            for phone in (0, 1):
                for way in ("up", "down"):
                    harmed.harm(phone, way, chance.sample(range(456), chance.randrange(1, 4)))
            for network in (clear, harmed):
                if step == 10:
                    network.dial(0, number_of(1))
                if step == 22:
                    network.answer(1)
                if step in (30, 31):
                    network.say(0, (step,))
                    network.say(1, (step, 255))
                if step == 50:
                    network.text(0, number_of(1), "hello")
                    network.hang(0)
                network.tick()
            self.assertEqual(all_answers(clear, 2), all_answers(harmed, 2))
        self.assertEqual(clear.texts(1), [(number_of(0), "hello")])
        self.assertEqual(len(clear.lines()), 1)

    def test_flips_and_losses_wait_for_the_next_block(self):
        network = settled(TWO)
        network.lose(0, "up", 1)
        network.lose(0, "down", 5)
        network.tick(50)
        # Nothing is sent without a link; so the first block up is lost now, and five blocks down.
        network.text(0, "99", "a")
        network.tick()
        self.assertEqual(network.links(), [(0, None, (0, 0), None, False)])
        network.tick(3)
        self.assertEqual(network.links(), [(0, 0, (0, 0), None, False)])

    def test_blocks_of_a_network_link_alone_do_not_count(self):
        network = talking(TWO)
        network.power(0, False)
        network.lose(0, "down", 3)
        network.tick(20)
        self.assertEqual(network.links(), [])
        network.power(0, True)
        # All three are left for the new link.
        rows = []
        for _ in range(8):
            network.tick()
            rows.append(network.known_area(0))
        self.assertEqual(rows, [None] * 6 + [0, 0])

    def test_blocks_of_an_earlier_network_link_do_not_count(self):
        network = talking(TWO)
        network.power(0, False)
        network.power(0, True)
        network.lose(0, "up", 8)
        network.lose(0, "down", 8)
        self.assert_ticks(network, lambda: ([link[0] for link in network.links()], network.channel(0)),
                          *[([0, 1, 0], (0, 1))] * 7, ([0, 1, 0], None))

    def test_flipped_blocks_are_coded(self):
        network = talking(TWO)
        with mock.patch("mobileair.air.code_block", wraps=code_block) as coded:
            network.tick(3)
            self.assertEqual(coded.call_count, 0)
            network.harm(0, "up", [1, 2, 300])
            network.harm(1, "down", [])
            network.tick(3)
            self.assertEqual(coded.call_count, 1)

    def test_blocks_below_the_level_use_up_the_losses(self):
        network = talking(TWO)
        network.lose(0, "up", 11)
        network.set_level(0, 0, 0)
        network.tick(7)
        network.set_level(0, 0, 30)
        network.tick(4)
        self.assertEqual(len(network.links()), 2)
        network.tick(30)
        self.assert_talking(network, 0, 1)


class EndTest(NetworkTest):
    def test_the_other_side_is_told_the_cause_27(self):
        for phone in (0, 1):
            network = talking(TWO)
            network.power(phone, False)
            self.first_tick(network, lambda: network.calls() == [])
            network.tick(2)
            self.assertEqual([network.call_state(1 - phone), network.call_cause(1 - phone)], ["idle", 27])
            self.assertEqual(network.lines()[0][4], 27)
            settle(network, 2)

    def test_parts_that_are_stored_are_paged_for_when_a_link_ends(self):
        network = talking(TWO + [[30, 0]], areas=[0, 0])
        network.text(2, number_of(0), "hello")
        network.text(2, number_of(1), "hi")
        self.first_tick(network, lambda: network.stored(0) == 1 and network.stored(1) == 1)
        network.tick(20)
        self.assertEqual([network.page(0), network.page(1), network.stored(0)], [None, None, 1])
        network.hang(0)
        network.tick(1)
        self.assertEqual([network.page(0), network.page(1)], [None, None])
        network.tick(1)
        # The link of phone 0 ends in the first tick behind the release, and its page is sent in the same tick.
        self.assertEqual([network.page(0), network.page(1)], ["texts", None])
        network.tick(1)
        self.assertEqual([network.page(0), network.page(1)], [None, "texts"])
        settle(network, 3)
        self.assertEqual([network.texts(0), network.texts(1)], [[(number_of(2), "hello")], [(number_of(2), "hi")]])

    def test_parts_are_paged_for_behind_a_lost_link(self):
        network = talking(TWO + [[30, 0]], areas=[0, 0])
        network.text(2, number_of(0), "hello")
        self.first_tick(network, lambda: network.stored(0) == 1)
        network.tick(12)
        network.lose(0, "up", 12)
        network.tick(11)
        self.assertIsNone(network.page(0))
        network.tick(1)
        self.assertEqual([network.page(0), network.calls()], ["texts", []])
        network.tick(80)
        self.assertEqual(network.stored(0), 1)
        # The pages came while the phone still had its link, so the text waits for the next one.
        talk(network, 0, 1)
        network.hang(0)
        settle(network, 3)
        self.assertEqual(network.texts(0), [(number_of(2), "hello")])


if __name__ == "__main__":
    unittest.main()
