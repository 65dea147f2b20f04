"""What a phone wants, camping and access (points 115 to 117, 119 and 120, with 65 to 71)."""

import unittest

from tests.networks import NetworkTest, built, number_of, occupied, settle, settled, talking


class CampingTest(NetworkTest):
    def camps_behind_a_tick(self, network, *levels):
        for cell, level in enumerate(levels):
            network.set_level(0, cell, level)
        network.tick()
        return network.camp(0)

    def test_the_first_cell(self):
        for levels, camp in (([9, 9], None), ([10, 9], 0), ([9, 10], 1), ([10, 10], 0), ([20, 21], 1), ([0, 0], None)):
            network = built([levels], areas=[0, 0])
            self.assertIsNone(network.camp(0))
            network.tick()
            self.assertEqual(network.camp(0), camp)

    def test_from_cell_to_cell(self):
        # All cells are of one area, so the phone wants no link.
        network = settled([[20, 0, 0]], areas=[0, 0, 0])
        steps = [((20, 25, 0), 0), ((20, 26, 0), 1), ((31, 26, 0), 1), ((32, 26, 0), 0), ((9, 5, 0), 0), ((5, 0, 0), 0),
                 ((4, 9, 9), None), ((5, 9, 9), None), ((5, 9, 10), 2), ((63, 9, 57), 0), ((4, 10, 10), 1), ((0, 0, 0), None)]
        for levels, camp in steps:
            self.assertEqual(self.camps_behind_a_tick(network, *levels), camp, levels)

    def test_a_phone_with_a_link_keeps_its_cell(self):
        network = talking([[30, 0], [0, 30]])
        network.set_level(0, 0, 5)
        network.tick(8)
        self.assertEqual(network.camp(0), 0)
        network.set_level(0, 1, 63)
        network.tick(20)
        # It is on a channel of the other cell now, and camps there when the link ends.
        self.assertEqual([network.camp(0), network.channel(0)[0]], [0, 1])
        network.hang(0)
        network.tick(1)
        self.assertEqual([network.camp(0), network.channel(0)[0]], [0, 1])
        settle(network, 2)
        self.assertEqual([network.camp(0), network.channel(0)], [1, None])

    def test_a_phone_that_is_off(self):
        network = built([[20, 0]], on=False)
        network.tick(3)
        self.assertIsNone(network.camp(0))
        network.power(0, True)
        self.assertIsNone(network.camp(0))
        network.tick()
        self.assertEqual(network.camp(0), 0)
        network.power(0, False)
        self.assertIsNone(network.camp(0))


class WantsTest(NetworkTest):
    def test_nothing(self):
        network = settled([[20]])
        self.assertEqual(network.wants(0), [])

    def test_an_area_update(self):
        network = built([[20, 0]], areas=[2, 3])
        self.assertEqual(network.wants(0), [])
        network.tick()
        self.assertEqual([network.wants(0), network.channel(0)], [[], (0, 0)])
        settle(network, 1)
        self.assertEqual([network.known_area(0), network.area(0)], [2, 2])
        network.set_level(0, 1, 26)
        settle(network, 1)
        self.assertEqual([network.known_area(0), network.area(0)], [3, 3])

    def test_none_in_another_cell_of_the_same_area(self):
        network = settled([[20, 0]], areas=[2, 2])
        network.set_level(0, 1, 26)
        network.tick()
        self.assertEqual([network.camp(0), network.wants(0), network.links()], [1, [], []])

    def test_a_phone_that_camps_on_none(self):
        network = built([[9]])
        network.tick(20)
        self.assertEqual([network.wants(0), network.links(), network.area(0)], [[], [], None])
        network.dial(0, "99")
        network.text(0, "99", "a")
        network.tick(20)
        self.assertEqual([network.wants(0), network.links()], [["call", "texts"], []])
        network.set_level(0, 0, 10)
        network.tick()
        # Now it camps, and the area comes first.
        self.assertEqual(len(network.links()), 1)
        self.assertEqual(network.call_state(0), "starting")
        self.first_tick(network, lambda: network.known_area(0) == 0)
        settle(network, 1)
        self.assertEqual([network.call_state(0), network.call_cause(0), network.outbox(0)], ["idle", 1, 0])

    def test_call_and_texts(self):
        network = occupied()
        network.set_level(1, 0, 0)
        network.tick()
        network.text(1, "99", "a")
        self.assertEqual(network.wants(1), ["texts"])
        network.dial(1, "99")
        self.assertEqual([network.camp(1), network.wants(1)], [None, ["call", "texts"]])

    def test_page_and_texts(self):
        network = occupied()
        network.text(1, "99", "a")
        network.dial(3, number_of(1))
        self.first_tick(network, lambda: "page" in network.wants(1))
        self.assertEqual(network.wants(1), ["page", "texts"])

    def test_page_area_and_texts(self):
        network = settled([[30, 0], [30, 0], [0, 30], [0, 30]], [1, 6], [0, 1])
        network.dial(0, number_of(2))
        self.first_tick(network, lambda: network.call_state(2) == "ringing")
        network.answer(2)
        network.dial(3, number_of(1))
        network.text(1, "99", "a")
        self.first_tick(network, lambda: "page" in network.wants(1))
        network.power(2, False)
        network.power(3, False)
        # In the cell of another area it still answers the page first.
        network.set_level(1, 0, 0)
        network.set_level(1, 1, 20)
        network.tick()
        self.assertEqual([network.camp(1), network.channel(1), network.known_area(1)], [1, (1, 2), 0])
        self.first_tick(network, lambda: network.channel(1) is None)
        self.assertEqual(network.wants(1), ["area", "texts"])
        network.tick()
        self.assertEqual([network.channel(1) is None, network.wants(1)], [False, []])
        self.first_tick(network, lambda: network.channel(1) is None)
        self.assertEqual([network.known_area(1), network.wants(1)], [1, ["texts"]])
        self.first_tick(network, lambda: network.outbox(1) == 0)

    def test_area_call_and_texts(self):
        network = settled([[30, 0], [0, 30]])
        network.set_level(0, 0, 0)
        network.tick()
        network.text(0, "99", "a")
        network.dial(0, "99")
        self.assertEqual(network.wants(0), ["call", "texts"])
        network.set_level(0, 1, 30)
        wishes = []
        for _ in range(40):
            network.tick()
            if network.channel(0) is None and [network.wants(0)] != wishes[-1:]:
                wishes.append(network.wants(0))
        self.assertEqual(wishes, [["call", "texts"], ["texts"], []])
        self.assertEqual([network.known_area(0), network.call_cause(0), network.outbox(0)], [1, 1, 0])

    def test_nothing_with_a_link(self):
        network = settled([[30, 0], [0, 30]])
        network.dial(0, number_of(1))
        network.tick()
        network.text(0, "99", "a")
        self.assertEqual([network.channel(0), network.wants(0)], [(0, 0), []])
        network.hang(0)
        self.first_tick(network, lambda: network.channel(0) is None)
        self.assertEqual(network.wants(0), ["texts"])


class AccessTest(NetworkTest):
    def test_one_phone(self):
        network = settled([[30]])
        network.text(0, "99", "a")
        network.tick()
        self.assertEqual([network.channel(0), network.links()], [(0, 0), [(0, 0, (0, 0), None, False)]])
        self.assertEqual(network.channel_state(0, 0), "held")

    def test_the_least_free_channel(self):
        network = settled([[30], [30], [30]], [3])
        for phone in (2, 0, 1):
            network.dial(phone, "99")
            network.tick()
        self.assertEqual([network.channel(phone) for phone in (2, 0, 1)], [(0, 0), (0, 1), (0, 2)])
        self.assertEqual([link[:3] for link in network.links()], [(2, 2, (0, 0)), (0, 0, (0, 1)), (1, 1, (0, 2))])

    def test_a_channel_that_rests_is_not_free(self):
        network = settled([[30], [30]], [2])
        network.text(0, "99", "a")
        network.tick()
        self.first_tick(network, lambda: network.channel(0) is None and not network.links())
        self.assertEqual(network.channel_state(0, 0), "rests")
        network.text(1, "99", "a")
        network.tick()
        self.assertEqual(network.channel(1), (0, 1))

    def test_links_stand_in_the_order_in_which_they_began(self):
        network = settled([[30, 0], [0, 30], [30, 0]], areas=[0, 0])
        network.dial(2, "99")
        network.tick()
        network.dial(0, "99")
        network.dial(1, "99")
        network.tick()
        self.assertEqual([link[0] for link in network.links()], [2, 0, 1])

    def ask_together(self, *levels):
        """Phones that ask in one cell in one tick; which of them are heard."""
        network = built([[level] for level in levels])
        network.tick()
        return [phone for phone in range(len(levels)) if network.channel(phone) is not None]

    def test_several_phones_in_one_cell(self):
        self.assertEqual(self.ask_together(20, 27), [])
        self.assertEqual(self.ask_together(20, 28), [1])
        self.assertEqual(self.ask_together(28, 20), [0])
        self.assertEqual(self.ask_together(30, 30), [])
        self.assertEqual(self.ask_together(10, 20, 28), [2])
        self.assertEqual(self.ask_together(10, 28, 20, 21), [])
        self.assertEqual(self.ask_together(10, 29, 20, 21), [1])
        self.assertEqual(self.ask_together(*[20] * 7, 28), [7])

    def test_the_level_in_this_cell_counts(self):
        network = built([[28, 33], [20, 20]], areas=[0, 0])
        network.tick()
        # The first phone asks in the other cell.
        self.assertEqual([network.channel(0), network.channel(1)], [(1, 0), (0, 0)])

    def test_several_cells_by_themselves(self):
        network = built([[30, 0], [30, 0], [0, 30], [0, 20]])
        network.tick()
        self.assertEqual([network.channel(phone) for phone in range(4)], [None, None, (1, 0), None])

    def test_tries_in_the_ticks_of_the_number(self):
        network = built([[30] for _ in range(6)])
        begun = {}
        for tick in range(30):
            network.tick()
            for link in network.links():
                begun.setdefault(link[0], tick)
        # All ask in tick 0, and none is heard; phone 0 asks again in tick 8 only.
        self.assertEqual(begun, {0: 8, 1: 1, 2: 2, 3: 3, 4: 4, 5: 5})

    def test_tries_are_0_again_with_a_link(self):
        network = built([[30], [30]])
        network.tick()
        self.first_tick(network, lambda: network.channel(1) is not None)
        self.assertEqual(network.ticks - 1, 1)
        self.first_tick(network, lambda: network.channel(1) is None)
        network.text(1, "99", "a")
        network.tick()
        self.assertIsNotNone(network.channel(1))

    def test_no_free_channel_counts_as_a_try(self):
        network = built([[30], [10]], [1])
        network.tick()
        self.assertEqual([network.channel(0), network.channel(1)], [(0, 0), None])
        # The channel is held in ticks 0 to 5 and rests in 5 to 14; phone 1 asks in ticks 0, 1, 9, and then rests.
        self.assertEqual(self.first_tick(network, lambda: network.channel(1) is not None), 29)


class GivingUpTest(NetworkTest):
    def test_a_call(self):
        network = occupied()
        while network.ticks % 8 != 4:
            network.tick()
        network.dial(1, "99")
        # It asks in this tick, and in the two next ones whose remainder is 1.
        self.assert_ticks(network, lambda: network.call_state(1), *["starting"] * 13, "idle", "idle")
        self.assertEqual([network.call_cause(1), network.wants(1), network.camp(1)], [47, [], 0])
        self.assert_talking(network, 0, 2)
        network.tick(40)
        self.assertEqual([network.call_state(1), network.call_cause(1)], ["idle", 47])

    def test_texts(self):
        network = occupied()
        while network.ticks % 8 != 1:
            network.tick()
        for _ in range(3):
            network.text(1, "99", "a")
        # Here the first tick is one of its own already.
        self.assert_ticks(network, lambda: (network.outbox(1), network.wants(1)), *[(3, ["texts"])] * 16, (0, []), (0, []))

    def test_tries_begin_anew_behind_giving_up(self):
        network = occupied()
        while network.ticks % 8 != 4:
            network.tick()
        network.dial(1, "99")
        network.text(1, "99", "a")
        self.assert_ticks(network, lambda: network.wants(1), *[["call", "texts"]] * 13, ["texts"])
        self.assertEqual(network.ticks % 8, 2)
        # It asks for the texts at once: in this tick and in the next two whose remainder is 1.
        self.assert_ticks(network, lambda: network.wants(1), *[["texts"]] * 15, [])

    def test_an_area_update_and_the_rest(self):
        network = occupied()
        network.power(1, False)
        while network.ticks % 8 != 4:
            network.tick()
        network.power(1, True)
        # It asks in this tick, 5 and 13 ticks later; then the rest is 20, and falls from the next tick on.
        self.assert_ticks(network, lambda: network.wants(1), *[["area"]] * 13, *[[]] * 20, ["area"])
        self.assertIsNone(network.known_area(1))
        # In that tick it has asked again, and so it does 4 and 12 ticks later.
        self.assert_ticks(network, lambda: network.wants(1), *[["area"]] * 11, *[[]] * 20, ["area"])

    def test_the_rest_is_for_the_area_only(self):
        network = occupied()
        network.power(1, False)
        network.power(1, True)
        self.first_tick(network, lambda: network.wants(1) == ["area"])
        self.first_tick(network, lambda: network.wants(1) == [])
        network.text(1, "99", "a")
        self.assertEqual(network.wants(1), ["texts"])
        network.dial(1, "99")
        self.assertEqual(network.wants(1), ["call", "texts"])

    def test_a_page_answer(self):
        network = occupied()
        network.dial(3, number_of(1))
        self.first_tick(network, lambda: network.wants(1) == ["page"])
        sent = network.ticks - 1
        wishes = [network.wants(1)]
        while network.page(1) is not None:
            network.tick()
            wishes.append(network.wants(1))
        # It is sent three times, three ticks apart; each time the tries are 0 again.
        self.assertEqual(network.ticks - 1, sent + 9)
        self.assertEqual(wishes, [["page"]] * 10)
        asked = 0
        while network.wants(1) == ["page"]:
            network.tick()
            asked += (network.ticks - 1) % 8 == 1
        # One try came directly behind the last sending; the others are in its own ticks.
        last = sent + 7
        own = [tick for tick in range(last + 1, last + 20) if tick % 8 == 1]
        self.assertEqual(network.ticks - 1, own[1])
        self.first_tick(network, lambda: network.call_state(3) == "idle")
        self.assertEqual(network.call_cause(3), 18)


if __name__ == "__main__":
    unittest.main()
