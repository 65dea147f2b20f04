"""Pages and the step of the switch in the network (points 126 to 128 and 130, with 86 to 89 and 112)."""

import unittest

from tests.networks import NetworkTest, number_of, occupied, settle, settled, talk, talking

TWO = [[30, 0], [0, 30]]
FOUR = [[30, 0, 0, 0], [0, 30, 0, 0], [0, 0, 30, 0], [0, 0, 0, 30]]


class PagesTest(NetworkTest):
    def test_a_page_for_a_call(self):
        network = settled(TWO)
        network.dial(0, number_of(1))
        self.assert_ticks(network, lambda: (network.page(1), network.wants(1)), *[(None, [])] * 4, ("call", ["page"]),
                          (None, []), (None, []))
        self.assertEqual(network.channel(1), (1, 0))

    def test_a_page_for_a_text(self):
        network = settled(TWO)
        network.text(0, number_of(1), "hello")
        rows = []
        for _ in range(12):
            network.tick()
            rows.append((network.stored(1), network.page(1), network.wants(1), network.texts(1)))
        # The service is accepted in tick 3, the part is submitted in tick 4, and stored; it is paged for at once.
        self.assertEqual(rows[3:6], [(0, None, [], []), (1, "texts", ["page"], []), (1, None, [], [])])
        settle(network, 2)
        self.assertEqual([network.texts(1), network.stored(1)], [[(number_of(0), "hello")], 0])

    def test_the_third_page_in_vain(self):
        network = settled(TWO)
        network.power(1, False)
        network.dial(0, number_of(1))
        self.first_tick(network, lambda: network.page(1) == "call")
        asked = network.ticks - 1
        # It is sent in this tick, 3 and 6 ticks later, and fails 9 ticks later.
        self.assert_ticks(network, lambda: (network.page(1), network.calls()), *[("call", [(0, 1, "looking")])] * 8, (None, []))
        self.assertEqual(network.ticks - 1, asked + 9)
        network.tick()
        self.assertEqual([network.call_state(0), network.call_cause(0)], ["idle", 18])
        settle(network, 2)

    def test_the_third_page_in_vain_with_a_number(self):
        network = settled(TWO + [[30, 0]])
        network.set_forward(1, "unreachable", number_of(2))
        network.power(1, False)
        network.dial(0, number_of(1))
        self.first_tick(network, lambda: network.calls() == [(0, 2, "looking")])
        self.assertEqual([network.page(1), network.page(2)], [None, "call"])
        self.first_tick(network, lambda: network.call_state(2) == "ringing")
        network.answer(2)
        network.tick(3)
        self.assert_talking(network, 0, 2)

    def test_a_page_for_texts_that_fails_just_goes(self):
        network = settled(TWO)
        network.power(1, False)
        network.text(0, number_of(1), "hello")
        self.first_tick(network, lambda: network.page(1) == "texts")
        self.assert_ticks(network, lambda: network.page(1), *["texts"] * 8, None, None, None)
        self.assertEqual([network.stored(1), network.calls(), network.lines()], [1, [], []])
        network.power(1, True)
        # Behind the link for its area, the phone is paged again.
        self.first_tick(network, lambda: network.page(1) == "texts")
        settle(network, 2)
        self.assertEqual(network.texts(1), [(number_of(0), "hello")])

    def test_a_page_for_a_call_in_place_of_one_for_texts(self):
        network = settled(FOUR)
        network.power(1, False)
        network.text(0, number_of(1), "hello")
        self.first_tick(network, lambda: network.page(1) == "texts")
        network.dial(2, number_of(1))
        self.first_tick(network, lambda: network.page(1) == "call")
        self.assertEqual(network.stored(1), 1)
        network.hang(2)
        self.first_tick(network, lambda: network.page(1) is None)
        self.assertEqual([network.calls(), network.stored(1)], [[], 1])

    def test_hanging_up_takes_the_page_away(self):
        network = settled(TWO)
        network.power(1, False)
        network.dial(0, number_of(1))
        self.first_tick(network, lambda: network.page(1) == "call")
        network.hang(0)
        network.tick()
        self.assertEqual([network.page(1), network.calls()], [None, []])

    def test_an_answer_to_a_page_that_is_no_more(self):
        network = settled(TWO)
        network.dial(0, number_of(1))
        self.first_tick(network, lambda: network.wants(1) == ["page"])
        network.hang(0)
        network.tick()
        # Both come in the same tick; the page goes first, and the answer finds none.
        self.assertEqual([(link[0], link[4]) for link in network.links()], [(0, True), (1, True)])
        settle(network, 2)
        self.assert_states(network, "idle", "idle")


class HearingTest(NetworkTest):
    def call_phone_1(self, network):
        """Whether phone 1 hears one of the three pages."""
        network.dial(0, number_of(1))
        heard = False
        for _ in range(20):
            network.tick()
            heard = heard or "page" in network.wants(1)
        return heard

    def test_a_phone_that_camps_in_the_area(self):
        self.assertTrue(self.call_phone_1(settled(TWO)))

    def test_in_another_cell_of_the_area(self):
        network = settled([[30, 0, 0], [0, 30, 0]], areas=[0, 1, 1])
        network.set_level(1, 1, 0)
        network.set_level(1, 2, 30)
        network.tick()
        self.assertEqual([network.camp(1), network.wants(1)], [2, []])
        self.assertTrue(self.call_phone_1(network))

    def test_a_phone_that_is_off(self):
        network = settled(TWO)
        network.power(1, False)
        self.assertFalse(self.call_phone_1(network))
        self.assertEqual([network.call_state(0), network.call_cause(0)], ["idle", 18])

    def test_a_phone_that_camps_on_none(self):
        network = settled(TWO)
        network.set_level(1, 1, 4)
        self.assertFalse(self.call_phone_1(network))
        self.assertEqual(network.call_cause(0), 18)

    def test_a_phone_in_another_area(self):
        # Its area update finds no channel, as phone 0 holds the only one there.
        network = settled([[30, 0], [0, 30]], [1, 6], [0, 1])
        network.dial(0, number_of(1))
        network.tick()
        network.set_level(1, 1, 0)
        network.set_level(1, 0, 20)
        heard = False
        for _ in range(20):
            network.tick()
            heard = heard or "page" in network.wants(1)
        self.assertEqual([heard, network.camp(1), network.area(1)], [False, 0, 1])
        self.assertEqual(network.call_cause(0), 18)

    def test_a_phone_with_a_link(self):
        network = settled(TWO)
        network.lose(1, "up", 100)
        network.text(1, "99", "a")
        network.tick()
        self.assertEqual([network.links(), network.channel(1)], [[(1, None, (1, 0), None, False)], (1, 0)])
        self.assertFalse(self.call_phone_1(network))

    def test_a_phone_whose_call_side_is_not_idle(self):
        network = occupied()
        while network.ticks % 8 != 2:
            network.tick()
        network.dial(1, "99")
        network.tick(3)
        network.dial(3, number_of(1))
        heard = []
        while network.call_state(1) == "starting":
            heard.append(network.wants(1))
            network.tick()
        self.assertEqual(set(map(tuple, heard)), {("call",)})

    def test_a_channel_that_becomes_free(self):
        network = occupied()
        network.dial(3, number_of(1))
        self.first_tick(network, lambda: network.wants(1) == ["page"])
        network.hang(0)
        # The phone still wants to answer when the channel has rested.
        self.first_tick(network, lambda: network.channel(1) is not None)
        self.assertEqual(network.channel(1), (0, 0))

    def test_each_page_sets_the_tries_to_0(self):
        network = occupied()
        while network.ticks % 8 != 0:
            network.tick()
        network.dial(3, number_of(1))
        sent = self.first_tick(network, lambda: network.wants(1) == ["page"])
        self.assertEqual(sent % 8, 4)
        # Pages come in ticks 4, 7 and 10 of here, and it asks in 5, 8, 9, 11, 17 and 25: only the last three are
        # tries in a row that no page has set to 0.
        self.assert_ticks(network, lambda: network.wants(1), *[["page"]] * 20, [], [])

    def test_parts_that_are_stored_while_a_phone_is_off(self):
        network = settled(TWO)
        network.power(1, False)
        for text in ("one", "two", "three"):
            network.text(0, number_of(1), text)
        network.tick(60)
        self.assertEqual([network.stored(1), network.page(1), network.outbox(0)], [3, None, 0])
        network.power(1, True)
        settle(network, 2)
        self.assertEqual(network.texts(1), [(number_of(0), text) for text in ("one", "two", "three")])
        self.assertEqual(network.stored(1), 0)

    def test_no_page_for_a_person_without_an_area(self):
        network = settled(TWO + [[0, 0]])
        network.text(0, number_of(2), "hello")
        network.tick(30)
        self.assertEqual([network.stored(2), network.page(2)], [1, None])
        network.set_level(2, 0, 30)
        settle(network, 3)
        self.assertEqual(network.texts(2), [(number_of(0), "hello")])


class ManyPagesTest(NetworkTest):
    def test_two_pages_of_an_area_in_a_tick(self):
        levels = [[30, 0, 0]] + [[0, 30, 0]] * 2 + [[0, 0, 30]] * 2
        network = settled(levels, areas=[0, 1, 1])
        for phone in (1, 2, 3, 4):
            network.power(phone, False)
        for phone in (1, 2, 3, 4):
            network.text(0, number_of(phone), "a")
        network.tick(80)
        self.assertEqual([network.stored(phone) for phone in (1, 2, 3, 4)], [1, 1, 1, 1])
        for phone in (1, 2, 3, 4):
            network.power(phone, True)
        settle(network, 5)
        self.assertEqual([network.texts(phone) for phone in (1, 2, 3, 4)], [[(number_of(0), "a")]] * 4)

    def test_the_third_page_of_an_area_is_sent_a_tick_later(self):
        levels = [[30, 0, 0, 0], [0, 30, 0, 0], [0, 0, 30, 0]] + [[0, 0, 0, 30], [0, 0, 0, 10], [0, 0, 0, 20]]
        network = settled(levels, areas=[0, 0, 0, 1])
        for caller in range(3):
            network.dial(caller, number_of(caller + 3))
        network.tick(4)
        self.assertEqual([network.wants(phone) for phone in (3, 4, 5)], [[], [], []])
        network.tick()
        self.assertEqual([network.page(phone) for phone in (3, 4, 5)], ["call"] * 3)
        self.assertEqual([network.wants(phone) for phone in (3, 4, 5)], [["page"], ["page"], []])
        network.tick()
        self.assertEqual([network.page(phone) for phone in (3, 4, 5)], [None, "call", "call"])
        self.assertEqual(network.wants(5), ["page"])


class RingsTest(NetworkTest):
    def test_a_call_that_nobody_answers(self):
        network = settled(TWO)
        network.dial(0, number_of(1))
        offered = self.first_tick(network, lambda: network.calls() == [(0, 1, "offered")])
        gone = self.first_tick(network, lambda: network.calls() == [])
        self.assertEqual(gone, offered + 16)
        # Both are told in the last step of that tick.
        self.assert_states(network, "alerting", "ringing")
        network.tick()
        self.assert_states(network, "idle", "idle")
        self.assertEqual([network.call_cause(0), network.call_cause(1), network.lines()], [19, 19, []])
        settle(network, 2)

    def test_an_answer_in_the_last_tick(self):
        for ticks, cause in ((16, 0), (17, 19)):
            network = settled(TWO)
            network.dial(0, number_of(1))
            self.first_tick(network, lambda: network.calls() == [(0, 1, "offered")])
            network.tick(ticks - 1)
            network.answer(1)
            network.tick(5)
            self.assertEqual([network.call_cause(0), network.call_cause(1)], [cause, cause])
            self.assertEqual(network.call_state(0), "idle" if cause else "active")

    def test_with_a_number_for_unanswered(self):
        network = settled(FOUR)
        network.set_forward(1, "unanswered", number_of(2))
        network.set_forward(2, "unanswered", number_of(3))
        network.dial(0, number_of(1))
        self.first_tick(network, lambda: network.calls() == [(0, 1, "ringing")])
        tick = self.first_tick(network, lambda: network.calls() == [(0, 2, "looking")])
        # The step of the pages comes ahead of that of the switch.
        self.assertEqual([network.page(2), network.wants(2)], ["call", []])
        network.tick()
        self.assertEqual([network.wants(2), network.ticks - 1], [["page"], tick + 1])
        self.assertEqual([network.call_state(1), network.call_cause(1)], ["idle", 19])
        self.first_tick(network, lambda: network.call_state(2) == "ringing")
        self.first_tick(network, lambda: network.call_state(3) == "ringing")
        network.answer(3)
        network.tick(3)
        self.assert_talking(network, 0, 3)
        network.say(3, (1, 2))
        network.tick()
        self.assertEqual([network.words_heard(0), network.units(0)], [((1, 2),), 0])

    def test_the_third_forwarding(self):
        network = settled(FOUR)
        network.set_forward(1, "always", number_of(2))
        network.set_forward(2, "unanswered", number_of(3))
        network.set_forward(3, "unanswered", number_of(1))
        network.dial(0, number_of(1))
        self.first_tick(network, lambda: network.call_state(2) == "ringing")
        self.first_tick(network, lambda: network.call_state(3) == "ringing")
        self.first_tick(network, lambda: network.calls() == [])
        network.tick()
        self.assertEqual([network.call_cause(0), network.call_cause(2), network.call_cause(3)], [31, 19, 19])

    def test_a_person_with_a_link_is_busy(self):
        network = settled(TWO + [[30, 0]], areas=[0, 0])
        network.set_forward(1, "busy", number_of(2))
        network.lose(1, "down", 100)
        network.text(1, "99", "a")
        network.tick(2)
        self.assertEqual([link[1] for link in network.links()], [1])
        network.dial(0, number_of(1))
        self.first_tick(network, lambda: network.calls() == [(0, 2, "looking")])

    def test_calls_to_somebody_who_talks(self):
        network = talking(TWO + [[30, 0]], areas=[0, 0])
        for called in (0, 1):
            network.dial(2, number_of(called))
            network.tick(8)
            self.assertEqual([network.call_state(2), network.call_cause(2)], ["idle", 17])
        self.assert_talking(network, 0, 1)
        network.set_forward(0, "busy", number_of(1))
        network.dial(2, number_of(0))
        network.tick(8)
        self.assertEqual(network.call_cause(2), 17)

    def test_several_calls(self):
        network = settled(FOUR)
        talk(network, 3, 2)
        talk(network, 0, 1)
        self.assertEqual(network.calls(), [(3, 2, "active"), (0, 1, "active")])
        for phone in range(4):
            network.say(phone, (phone,))
        network.tick(2)
        self.assertEqual([network.words_heard(phone) for phone in range(4)], [((1,),), ((0,),), ((3,),), ((2,),)])
        network.hang(2)
        self.first_tick(network, lambda: network.call_state(3) == "idle")
        self.assertEqual([network.calls(), network.lines()[0][4]], [[(0, 1, "active")], 16])


if __name__ == "__main__":
    unittest.main()
