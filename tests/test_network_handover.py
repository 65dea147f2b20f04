"""Handovers (points 121, 122, 129 and 136)."""

import unittest

from tests.networks import NetworkTest, number_of, settle, settled, talk, talking

# Phone 0 is in cell 0; cells 1 and 2 may become better. Phone 1 is in cell 3.
LEVELS = [[20, 0, 0, 0], [0, 0, 0, 30]]


def seconds(network):
    """The channels of the network link of phone 0."""
    return [link[2:4] for link in network.links() if link[0] == 0][0]


class CountTest(NetworkTest):
    def assert_seconds(self, network, *wanted):
        self.assert_ticks(network, lambda: seconds(network)[1], *wanted)

    def test_three_ticks_in_a_row(self):
        network = talking(LEVELS)
        network.set_level(0, 1, 26)
        self.assert_seconds(network, None, None, (1, 0))
        self.assertEqual([network.channel_state(1, 0), network.channel(0)], ["held", (0, 0)])

    def test_two_ticks_in_a_row(self):
        network = talking(LEVELS)
        for _ in range(3):
            network.set_level(0, 1, 26)
            self.assert_seconds(network, None, None)
            network.set_level(0, 1, 25)
            self.assert_seconds(network, None)
        network.set_level(0, 1, 26)
        self.assert_seconds(network, None, None, (1, 0))

    def test_levels(self):
        for own, other, moves in ((20, 25, False), (20, 26, True), (5, 10, False), (5, 11, True), (4, 9, False),
                                  (4, 10, True), (3, 9, False), (57, 63, True), (58, 63, False), (0, 9, False)):
            network = talking(LEVELS)
            network.set_level(0, 0, own)
            network.set_level(0, 1, other)
            self.assert_seconds(network, None, None, (1, 0) if moves else None)

    def test_another_best_cell_in_between(self):
        network = talking(LEVELS)
        network.set_level(0, 1, 30)
        self.assert_seconds(network, None, None)
        network.set_level(0, 2, 31)
        self.assert_seconds(network, None, None, (2, 0))

    def test_another_best_cell_for_one_tick(self):
        network = talking(LEVELS)
        network.set_level(0, 1, 30)
        self.assert_seconds(network, None, None)
        network.set_level(0, 2, 31)
        self.assert_seconds(network, None)
        network.set_level(0, 2, 0)
        self.assert_seconds(network, None, None, (1, 0))

    def test_of_equal_cells_the_first_one(self):
        network = talking(LEVELS)
        network.set_level(0, 1, 30)
        network.set_level(0, 2, 30)
        self.assert_seconds(network, None, None, (1, 0))

    def test_the_least_free_channel(self):
        network = settled(LEVELS + [[0, 30, 0, 0]])
        talk(network, 0, 1)
        network.dial(2, "99")
        network.tick()
        self.assertEqual(network.channel(2), (1, 0))
        network.set_level(0, 1, 30)
        self.assert_seconds(network, None, None, (1, 1))

    def test_no_free_channel(self):
        network = settled(LEVELS + [[0, 30, 0, 0], [0, 0, 0, 20]], [6, 1, 6, 6], [0, 0, 0, 0])
        talk(network, 0, 1)
        talk(network, 2, 3)
        self.assertEqual(network.channel(2), (1, 0))
        network.set_level(0, 1, 30)
        self.assert_seconds(network, *[None] * 12)
        network.hang(2)
        self.first_tick(network, lambda: network.channel_state(1, 0) == "rests")
        # The count goes on; the channel is held as soon as it has rested.
        self.assert_seconds(network, *[None] * 9, (1, 0))
        self.assert_talking(network, 0, 1)

    def test_no_free_channel_but_another_cell(self):
        network = settled(LEVELS + [[0, 30, 0, 0], [0, 0, 0, 20]], [6, 1, 6, 6], [0, 0, 0, 0])
        talk(network, 0, 1)
        talk(network, 2, 3)
        network.set_level(0, 1, 30)
        network.set_level(0, 2, 29)
        # Only the best cell counts.
        self.assert_seconds(network, *[None] * 12)

    def test_only_in_an_active_call(self):
        network = settled(LEVELS)
        network.dial(0, number_of(1))
        network.tick()
        network.set_level(0, 1, 63)
        self.first_tick(network, lambda: network.calls() == [(0, 1, "ringing")])
        self.assert_seconds(network, *[None] * 6)
        network.answer(1)
        network.tick()
        self.assertEqual([network.calls(), seconds(network)[1]], [[(0, 1, "answered")], None])
        self.assert_seconds(network, None, None, (1, 0))

    def test_both_sides_of_a_call(self):
        network = talking([[20, 0, 0], [0, 30, 0]])
        network.set_level(0, 2, 40)
        network.set_level(1, 2, 40)
        network.tick(3)
        self.assertEqual([link[2:4] for link in network.links()], [((0, 0), (2, 0)), ((1, 0), (2, 1))])
        network.tick(2)
        self.assertEqual([link[2:4] for link in network.links()], [((2, 0), None), ((2, 1), None)])
        self.assert_talking(network, 0, 1)

    def test_a_network_of_one_cell(self):
        network = talking([[20], [40]])
        network.set_level(0, 0, 5)
        network.tick(20)
        self.assert_talking(network, 0, 1)

    def test_a_released_link_does_not_move(self):
        network = talking(LEVELS)
        network.set_level(0, 1, 30)
        network.tick(2)
        network.hang(0)
        network.tick()
        self.assertEqual([network.channel(0), network.channel_state(1, 0)], [(0, 0), "free"])


    def test_a_count_without_a_free_channel_is_0_behind_the_release(self):
        network = settled(LEVELS + [[0, 30, 0, 0], [0, 0, 0, 20]], [6, 1, 6, 6], [0, 0, 0, 0])
        talk(network, 0, 1)
        talk(network, 2, 3)
        network.set_level(0, 1, 30)
        network.tick(6)
        network.hang(2)
        self.first_tick(network, lambda: network.channel_state(1, 0) == "rests")
        network.tick(6)
        # Both are told the release, and phone 0 does not take it while the channel becomes free.
        network.hang(1)
        network.lose(0, "down", 7)
        network.tick(6)
        self.assertEqual([network.channel(0), seconds(network), network.channel_state(1, 0)],
                         [(0, 0), ((0, 0), None), "free"])


class MoveTest(NetworkTest):
    def test_the_ticks_of_a_handover(self):
        network = talking(LEVELS)
        network.set_level(0, 1, 30)
        network.tick(3)
        rows = []
        for _ in range(4):
            network.tick()
            rows.append((network.channel(0), seconds(network), network.channel_state(0, 0), network.channel_state(1, 0)))
        self.assertEqual(rows, [
            ((1, 0), ((0, 0), (1, 0)), "held", "held"), ((1, 0), ((1, 0), None), "rests", "held"),
            ((1, 0), ((1, 0), None), "rests", "held"), ((1, 0), ((1, 0), None), "rests", "held"),
        ])
        self.assert_talking(network, 0, 1)
        network.tick(7)
        self.assertEqual(network.channel_state(0, 0), "free")
        self.assertEqual(network.camp(0), 0)

    def test_words_during_a_handover(self):
        for begin in range(8):
            for lost in ((), ("up",), ("down",), ("up", "down")):
                self.assert_words_arrive(begin, lost)

    def assert_words_arrive(self, begin, lost):
        network = talking(LEVELS)
        network.set_level(0, 1, 30)
        said = []
        for step in range(12):
            if step == begin:
                for way in lost:
                    network.lose(0, way, 3)
            said.append((step,) * (1 + 3 * step))
            network.say(0, said[-1])
            network.say(1, said[-1])
            network.tick()
        network.tick(60)
        self.assert_talking(network, 0, 1)
        self.assertEqual(network.channel(0), (1, 0))
        self.assertEqual([network.words_heard(0), network.words_heard(1)], [tuple(said), tuple(said)])

    def test_there_and_back(self):
        network = talking(LEVELS)
        for _ in range(3):
            network.set_level(0, 1, 40)
            network.say(0, (1,))
            network.tick(20)
            self.assertEqual([network.channel(0), seconds(network)], [(1, 0), ((1, 0), None)])
            network.set_level(0, 1, 8)
            network.say(1, (2,))
            network.tick(20)
            self.assertEqual([network.channel(0), seconds(network)], [(0, 0), ((0, 0), None)])
        self.assert_talking(network, 0, 1)
        self.assertEqual([network.words_heard(0), network.words_heard(1)], [((2,),) * 3, ((1,),) * 3])

    def test_back_before_the_first_channel_has_rested(self):
        network = talking(LEVELS, [1, 1, 1, 1])
        network.set_level(0, 1, 40)
        network.tick(5)
        self.assertEqual([network.channel(0), network.channel_state(0, 0)], [(1, 0), "rests"])
        network.set_level(0, 1, 8)
        network.set_level(0, 0, 30)
        self.assert_ticks(network, lambda: seconds(network)[1], *[None] * 9, (0, 0))
        network.tick(2)
        self.assertEqual(network.channel(0), (0, 0))
        self.assert_talking(network, 0, 1)

    def test_where_the_phone_camps_behind_a_handover(self):
        network = talking(LEVELS)
        network.set_level(0, 1, 30)
        network.tick(10)
        network.hang(1)
        self.first_tick(network, lambda: network.channel(0) is None)
        self.assertEqual([network.camp(0), network.call_cause(0)], [1, 16])
        self.assertEqual(network.wants(0), ["area"])
        settle(network, 2)
        self.assertEqual([network.known_area(0), network.area(0)], [1, 1])

    def test_the_handover_is_told_until_it_is_taken(self):
        network = talking(LEVELS)
        network.set_level(0, 1, 30)
        network.tick(3)
        network.lose(0, "down", 4)
        self.assert_ticks(network, lambda: network.channel(0), *[(0, 0)] * 6, (1, 0))
        network.tick(20)
        self.assert_talking(network, 0, 1)

    def test_the_network_stays_until_a_block_comes(self):
        network = talking(LEVELS)
        network.set_level(0, 1, 30)
        network.tick(4)
        network.lose(0, "up", 3)
        self.assert_ticks(network, lambda: seconds(network), *[((0, 0), (1, 0))] * 3, ((1, 0), None))
        self.assert_talking(network, 0, 1)

    def test_blocks_on_the_first_channel_count_but_are_not_taken(self):
        network = talking(LEVELS)
        network.set_level(0, 1, 30)
        network.tick(4)
        self.assertEqual(network.channel(0), (1, 0))
        # Nothing comes up; so the network sends on the first channel, and the phone takes none of it.
        network.lose(0, "up", 100)
        network.lose(0, "down", 5)
        network.tick(7)
        self.assertEqual(network.channel(0), (1, 0))
        network.tick(1)
        self.assertEqual([network.channel(0), network.call_state(0), network.call_cause(0), network.camp(0)],
                         [None, "idle", 27, 1])
        network.lose(0, "up", 0)
        # The five losses are used up: the next link is not harmed by them.
        network.text(0, "99", "a")
        network.tick(1)
        begun = network.ticks
        self.first_tick(network, lambda: network.known_area(0) == 1)
        self.assertEqual(network.ticks - begun, 3)

    def test_both_channels_are_let_go_if_the_link_is_lost(self):
        network = talking(LEVELS, areas=[0, 0, 0, 0])
        network.set_level(0, 1, 30)
        network.tick(3)
        network.lose(0, "up", 100)
        network.lose(0, "down", 100)
        self.assertEqual([network.channel_state(0, 0), network.channel_state(1, 0)], ["held", "held"])
        self.first_tick(network, lambda: network.calls() == [])
        self.assertEqual([network.channel_state(0, 0), network.channel_state(1, 0)], ["rests", "rests"])
        self.assertEqual([network.call_cause(0), len(network.links())], [27, 1])
        network.tick(9)
        self.assertEqual([network.channel_state(0, 0), network.channel_state(1, 0)], ["free", "free"])

    def test_both_channels_are_let_go_if_the_link_is_released(self):
        network = talking(LEVELS)
        network.set_level(0, 1, 30)
        network.tick(3)
        network.hang(1)
        network.tick(1)
        self.assertEqual([seconds(network), network.channel(0)], [((0, 0), (1, 0)), (1, 0)])
        settle(network, 2)
        self.assertEqual([network.channel_state(0, 0), network.channel_state(1, 0)], ["free", "free"])

    def test_a_second_channel_that_the_phone_does_not_hear(self):
        network = talking(LEVELS)
        network.set_level(0, 1, 30)
        network.tick(3)
        network.set_level(0, 1, 0)
        network.tick(8)
        self.assertEqual(network.channel(0), (1, 0))
        network.tick(60)
        self.assertEqual([network.call_cause(0), network.call_cause(1), network.calls()], [27, 27, []])
        self.assertEqual(network.camp(0), 0)


if __name__ == "__main__":
    unittest.main()
