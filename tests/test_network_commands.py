"""What there is, and the commands (points 113, 114 and 140 to 143), with the errors of the interface."""

import unittest

from mobileair.errors import BadText, MobileError, NotNow
from mobileair.network import Network
from tests.networks import NetworkTest, all_answers, built, digits_of, number_of, occupied, settle, settled, talk, talking

QUESTIONS = ("is_on", "camp", "channel", "known_area", "wants", "call_state", "call_cause", "words_said", "words_heard",
             "outbox", "texts", "answer", "hang")
OF_PERSONS = ("area", "page", "stored", "units")


class BeginTest(NetworkTest):
    def test_the_example(self):
        network = Network([2], [3])
        phone = network.add_phone("123456", "12")
        self.assertEqual(network.set_level(phone, 0, 20), 0)
        self.assertIs(network.power(phone, True), False)
        self.assertEqual(network.tick(6), 6)
        self.assertEqual([network.area(phone), network.camp(phone), network.links()], [3, 0, []])

    def test_cells(self):
        for sizes, areas in (([], []), ([1] * 5, [0] * 5), ([1], []), ([], [0]), ([1, 1], [0]), ([1], [0, 0]),
                             ([1] * 4, [0] * 5), ([1] * 5, [0] * 4), ([0], []), ([7, 7], [4])):
            self.assert_out_of_range("cells", Network, sizes, areas)
        for cells in range(1, 5):
            network = Network([1] * cells, [0] * cells)
            self.assertEqual(network.channel_state(cells - 1, 0), "free")
            self.assert_no_such("cell", cells, network.channel_state, cells, 0)

    def test_sizes_and_areas(self):
        for size in (0, -1, 7, 100):
            self.assert_out_of_range("sizes", Network, [size], [0])
            self.assert_out_of_range("sizes", Network, [1, 6, size], [0, 0, 0])
            self.assert_out_of_range("sizes", Network, [1, size], [9, 9])
        for area in (-1, 4, 100):
            self.assert_out_of_range("areas", Network, [1], [area])
            self.assert_out_of_range("areas", Network, [6, 6, 6, 6], [0, 1, 2, area])
        network = Network([1, 6], [0, 3])
        self.assertEqual([network.channel_state(0, 0), network.channel_state(1, 5)], ["free", "free"])
        self.assert_no_such("channel", 1, network.channel_state, 0, 1)
        self.assert_no_such("channel", 6, network.channel_state, 1, 6)
        self.assert_no_such("channel", -1, network.channel_state, 1, -1)
        self.assert_no_such("cell", -1, network.channel_state, -1, 9)
        self.assert_no_such("cell", 2, network.channel_state, 2, 9)

    def test_the_lists_are_neither_kept_nor_changed(self):
        sizes, areas = [1, 2], [3, 1]
        network = Network(sizes, areas)
        self.assertEqual((sizes, areas), ([1, 2], [3, 1]))
        sizes[0] = 6
        areas[0] = 0
        sizes.append(1)
        areas.append(1)
        network.add_phone("123456", "12")
        network.set_level(0, 0, 20)
        network.power(0, True)
        network.tick(6)
        self.assertEqual(network.area(0), 3)
        self.assert_no_such("channel", 1, network.channel_state, 0, 1)
        self.assert_no_such("cell", 2, network.channel_state, 2, 0)

    def test_at_first(self):
        network = built([[20, 0], [0, 0]], on=False)
        self.assertEqual(network.ticks, 0)
        row = [False, None, None, None, [], "idle", 0, (), (), 0, [], None, None, 0, 0]
        self.assertEqual(all_answers(network, 2)[6:], [row, row])
        self.assertEqual([network.links(), network.calls(), network.lines()], [[], [], []])

    def test_eight_phones(self):
        network = Network([1], [0])
        for phone in range(8):
            self.assertEqual(network.add_phone(digits_of(phone), number_of(phone)), phone)
        self.assert_raises_what(NotNow, "phone", network.add_phone, "999999", "99")
        self.assert_raises_what(NotNow, "phone", network.add_phone, "1", "")
        self.assert_no_such("phone", 8, network.is_on, 8)
        self.assertIs(network.is_on(7), False)

    def test_no_phone_behind_the_first_tick(self):
        network = Network([1], [0])
        network.tick()
        self.assert_raises_what(NotNow, "phone", network.add_phone, "123456", "12")
        self.assert_raises_what(NotNow, "phone", network.add_phone, "1", "")
        self.assert_no_such("phone", 0, network.is_on, 0)

    def test_digits_and_numbers_of_phones(self):
        network = Network([1], [0])
        for digits in ("", "12345", "1234567890123456", "12345a", "12 456", "-12345", "123456\n"):
            self.assert_out_of_range("digits", network.add_phone, digits, "12")
            self.assert_out_of_range("digits", network.add_phone, digits, "")
        for number in ("", "1234567890", "1a", "+12", "1 2"):
            self.assert_out_of_range("number", network.add_phone, "123456", number)
        self.assertEqual(network.add_phone("123456", "1"), 0)
        self.assertEqual(network.add_phone("123456789012345", "123456789"), 1)
        self.assert_raises_what(NotNow, "digits", network.add_phone, "123456", "5")
        self.assert_raises_what(NotNow, "digits", network.add_phone, "123456", "1")
        self.assert_raises_what(NotNow, "number", network.add_phone, "654321", "123456789")
        self.assert_out_of_range("number", network.add_phone, "123456", "1234567890")
        self.assertEqual(network.add_phone("654321", "5"), 2)

    def test_ticks(self):
        network = Network([1], [0])
        for count in (0, -1, 401, 1000):
            self.assert_out_of_range("count", network.tick, count)
        self.assertEqual(network.ticks, 0)
        self.assertEqual([network.tick(), network.tick(1), network.tick(400), network.tick(count=3)], [1, 2, 402, 405])
        self.assertEqual(network.ticks, 405)

    def test_many_ticks_at_once_are_as_many_single_ones(self):
        first, second = built([[20, 0], [0, 20]]), built([[20, 0], [0, 20]])
        for network in (first, second):
            network.text(0, number_of(1), "hello")
        first.tick(90)
        for _ in range(90):
            second.tick()
        self.assertEqual(all_answers(first, 2), all_answers(second, 2))


class NoSuchTest(NetworkTest):
    def test_no_such_phone(self):
        network = built([[20], [20]])
        for phone in (-1, 2, 8, 100):
            for name in QUESTIONS:
                self.assert_no_such("phone", phone, getattr(network, name), phone)
            self.assert_no_such("phone", phone, network.power, phone, True)
            self.assert_no_such("phone", phone, network.set_level, phone, 9, 99)
            self.assert_no_such("phone", phone, network.lose, phone, "sideways", 999)
            self.assert_no_such("phone", phone, network.harm, phone, "sideways", [999])
            self.assert_no_such("phone", phone, network.dial, phone, "")
            self.assert_no_such("phone", phone, network.say, phone, ())
            self.assert_no_such("phone", phone, network.text, phone, "", "`")

    def test_no_such_person(self):
        network = built([[20], [20]])
        for person in (-1, 2, 8, 100):
            for name in OF_PERSONS:
                self.assert_no_such("person", person, getattr(network, name), person)
            self.assert_no_such("person", person, network.set_forward, person, "never", "")

    def test_no_phones_at_all(self):
        network = Network([1], [0])
        self.assert_no_such("phone", 0, network.power, 0, True)
        self.assert_no_such("person", 0, network.units, 0)


class LevelsTest(NetworkTest):
    def test_set_level(self):
        network = built([[20, 0], [0, 7]])
        self.assertEqual([network.set_level(0, 0, 63), network.set_level(0, 0, 0), network.set_level(0, 0, 5)], [20, 63, 0])
        self.assertEqual([network.set_level(1, 1, 9), network.set_level(1, 0, 9)], [7, 0])
        for level in (-1, 64, 1000):
            self.assert_out_of_range("level", network.set_level, 0, 0, level)
            self.assert_no_such("cell", 2, network.set_level, 0, 2, level)
            self.assert_no_such("cell", -1, network.set_level, 0, -1, level)
        self.assertEqual(network.set_level(0, 0, 1), 5)

    def test_lose(self):
        network = built([[20]])
        for way in ("", "Up", "both", "sideways"):
            self.assert_out_of_range("way", network.lose, 0, way, 5)
            self.assert_out_of_range("way", network.lose, 0, way, 101)
            self.assert_out_of_range("way", network.harm, 0, way, [1])
            self.assert_out_of_range("way", network.harm, 0, way, [1, 1])
        for way in ("up", "down"):
            for blocks in (-1, 101, 1000):
                self.assert_out_of_range("blocks", network.lose, 0, way, blocks)
            for blocks in (0, 1, 100):
                self.assertIsNone(network.lose(0, way, blocks))

    def test_harm(self):
        network = built([[20]])
        for way in ("up", "down"):
            for places in ([-1], [456], [0, 456], [0, 1, 2, 3], [5, 5], [1, 2, 1], [1, 2, -1], [0, 0, 0, 0]):
                self.assert_out_of_range("places", network.harm, 0, way, places)
            for places in ([], [0], [455], [0, 455], [1, 2, 3], [455, 0, 228]):
                given = list(places)
                self.assertIsNone(network.harm(0, way, given))
                self.assertEqual(given, places)


class PowerTest(NetworkTest):
    def test_on_and_off(self):
        network = built([[20]], on=False)
        self.assertEqual([network.power(0, False), network.power(0, True), network.is_on(0)], [False, False, True])
        self.assertEqual([network.power(0, True), network.power(0, False), network.is_on(0)], [True, True, False])

    def test_a_phone_that_is_off_does_nothing(self):
        network = built([[20]], on=False)
        network.tick(20)
        self.assertEqual([network.camp(0), network.wants(0), network.links(), network.area(0)], [None, [], [], None])

    def test_switching_to_what_it_is_changes_nothing(self):
        network = talking([[30, 0], [0, 30]])
        network.text(0, "99", "hello")
        before = all_answers(network, 2)
        self.assertIs(network.power(0, True), True)
        self.assertEqual(all_answers(network, 2), before)
        network = settled([[30], [30]])
        network.power(0, False)
        before = all_answers(network, 2)
        self.assertIs(network.power(0, False), False)
        self.assertEqual(all_answers(network, 2), before)

    def test_off_in_a_call(self):
        network = talking([[30, 0], [0, 30]])
        network.say(0, (1,))
        network.text(0, "99", "hello")
        network.text(0, "99", "hello")
        cause, links = network.call_cause(0), network.links()
        network.power(0, False)
        self.assertEqual([network.camp(0), network.channel(0), network.known_area(0), network.wants(0),
                          network.call_state(0), network.call_cause(0), network.outbox(0)],
                         [None, None, None, [], "idle", cause, 0])
        # The words stay, and the network link goes on by itself.
        self.assertEqual([network.words_said(0), network.links(), network.area(0)], [((1,),), links, 0])
        self.assertEqual(network.calls(), [(0, 1, "active")])
        network.tick(11)
        self.assertEqual(len(network.links()), 2)
        network.tick(1)
        self.assertEqual(network.links(), [(1, 1, (1, 0), None, True)])
        self.assertEqual(network.calls(), [])
        network.tick(2)
        self.assertEqual([network.call_state(1), network.call_cause(1)], ["idle", 27])

    def test_off_in_each_state_of_a_call(self):
        for ticks in range(12):
            network = settled([[30, 0], [0, 30]])
            network.dial(0, number_of(1))
            network.tick(ticks or 1)
            for phone in (0, 1):
                network.power(phone, False)
                self.assertEqual([network.call_state(phone), network.call_cause(phone), network.wants(phone)], ["idle", 0, []])
            network.tick(60)
            self.assertEqual([network.links(), network.calls(), network.page(1)], [[], [], None])

    def test_off_while_it_wants_something(self):
        network = occupied()
        network.dial(3, number_of(1))
        self.first_tick(network, lambda: network.wants(1) == ["page"])
        network.text(1, "99", "hello")
        self.assertEqual(network.wants(1), ["page", "texts"])
        network.power(1, False)
        self.assertEqual([network.wants(1), network.outbox(1)], [[], 0])
        network.power(1, True)
        self.assertEqual(network.wants(1), [])
        network = settled([[30, 0], [0, 30]])
        network.dial(0, number_of(1))
        self.assertEqual([network.wants(0), network.call_state(0)], [["call"], "starting"])
        network.power(0, False)
        network.power(0, True)
        self.assertEqual([network.wants(0), network.call_state(0), network.call_cause(0)], [[], "idle", 0])

    def test_tries_and_rest_are_0_behind_switching_off(self):
        network = built([[30], [30]], on=False)
        network.tick()
        network.power(0, True)
        network.power(1, True)
        network.tick()
        self.assertEqual(network.links(), [])
        network.power(0, False)
        network.power(0, True)
        network.tick()
        # Without a count of tries it may ask in any tick.
        self.assertEqual([link[0] for link in network.links()], [0])
        network = occupied()
        network.power(1, False)
        network.power(1, True)
        self.first_tick(network, lambda: network.camp(1) == 0 and network.wants(1) == [])
        network.power(1, False)
        network.power(1, True)
        network.tick()
        self.assertEqual(network.wants(1), ["area"])

    def test_what_was_read_stays(self):
        network = settled([[30, 0], [0, 30]])
        network.text(0, number_of(1), "hello")
        settle(network, 2)
        network.power(1, False)
        self.assertEqual(network.texts(1), [(number_of(0), "hello")])
        network.power(1, True)
        settle(network, 2)
        self.assertEqual([network.texts(1), network.known_area(1)], [[(number_of(0), "hello")], 1])


class DialTest(NetworkTest):
    def test_dial(self):
        network = settled([[30, 0], [0, 30]])
        self.assertIsNone(network.dial(0, "123456789"))
        self.assertEqual([network.call_state(0), network.wants(0), network.links()], ["starting", ["call"], []])
        network.tick()
        self.assertEqual([network.wants(0), len(network.links())], [[], 1])

    def test_numbers(self):
        network = settled([[30]])
        for number in ("", "1234567890", "12a", " 1", "1-2"):
            self.assert_out_of_range("number", network.dial, 0, number)
        network.power(0, False)
        self.assert_out_of_range("number", network.dial, 0, "")
        self.assert_raises_what(NotNow, "dial", network.dial, 0, "1")

    def test_not_now(self):
        network = built([[30, 0], [0, 30]])
        network.tick()
        # Both phones have links for their areas.
        self.assert_raises_what(NotNow, "dial", network.dial, 0, "1")
        settle(network, 2)
        network.dial(0, number_of(1))
        self.assert_raises_what(NotNow, "dial", network.dial, 0, number_of(1))
        network.tick()
        self.assert_raises_what(NotNow, "dial", network.dial, 0, number_of(1))
        self.first_tick(network, lambda: network.wants(1) == ["page"])
        self.assert_raises_what(NotNow, "dial", network.dial, 1, "99")
        self.assertEqual(network.call_state(1), "idle")
        self.first_tick(network, lambda: network.call_state(1) == "ringing")
        self.assert_raises_what(NotNow, "dial", network.dial, 1, "99")

    def test_dialling_without_a_cell(self):
        network = settled([[30]])
        network.set_level(0, 0, 4)
        network.tick()
        self.assertIsNone(network.camp(0))
        network.dial(0, "99")
        network.tick(100)
        self.assertEqual([network.call_state(0), network.wants(0), network.links()], ["starting", ["call"], []])


class CallCommandsTest(NetworkTest):
    def test_answer(self):
        network = settled([[30, 0], [0, 30]])
        for phone in (0, 1):
            self.assert_raises_what(NotNow, "answer", network.answer, phone)
        network.dial(0, number_of(1))
        self.first_tick(network, lambda: network.call_state(1) == "ringing")
        self.assert_raises_what(NotNow, "answer", network.answer, 0)
        self.assertIsNone(network.answer(1))
        self.assert_raises_what(NotNow, "answer", network.answer, 1)
        network.tick(3)
        self.assert_talking(network, 0, 1)
        for phone in (0, 1):
            self.assert_raises_what(NotNow, "answer", network.answer, phone)

    def test_say(self):
        network = talking([[30, 0], [0, 30]])
        for octets in ((), (1,) * 41, (256,), (-1,), (1, 2, 300)):
            self.assert_out_of_range("word", network.say, 0, octets)
        for octets in ((0,), (255,) * 40):
            self.assertIsNone(network.say(0, octets))
        network.tick(10)
        self.assertEqual(network.words_said(0), ((0,), (255,) * 40))
        self.assertEqual(network.words_heard(1), ((0,), (255,) * 40))

    def test_say_outside_of_a_call(self):
        network = settled([[30, 0], [0, 30]])
        self.assert_raises_what(NotNow, "say", network.say, 0, (1,))
        self.assert_out_of_range("word", network.say, 0, ())
        network.dial(0, number_of(1))
        self.first_tick(network, lambda: network.call_state(1) == "ringing")
        for phone in (0, 1):
            self.assert_raises_what(NotNow, "say", network.say, phone, (1,))
            self.assert_out_of_range("word", network.say, phone, (1,) * 41)

    def test_hang_without_a_call(self):
        network = settled([[30, 0], [0, 30]])
        self.assert_raises_what(NotNow, "hang", network.hang, 0)
        network.power(0, False)
        self.assert_raises_what(NotNow, "hang", network.hang, 0)

    def test_hang_up_a_call_that_has_no_link_yet(self):
        network = settled([[30, 0], [0, 30]])
        network.dial(0, number_of(1))
        self.assertIsNone(network.hang(0))
        self.assertEqual([network.call_state(0), network.call_cause(0), network.wants(0)], ["idle", 16, []])
        self.assert_raises_what(NotNow, "hang", network.hang, 0)
        network.tick(30)
        self.assertEqual([network.links(), network.calls(), network.lines()], [[], [], []])
        network.dial(0, number_of(1))
        self.assertEqual(network.wants(0), ["call"])

    def test_hang_up_while_another_link_is_there(self):
        network = settled([[30, 0], [0, 30]])
        network.set_level(0, 0, 0)
        network.set_level(0, 1, 30)
        network.dial(0, number_of(1))
        network.tick()
        # The area update comes first, and the call is still wanted behind it.
        self.assertEqual([network.channel(0), network.call_state(0)], [(1, 0), "starting"])
        network.hang(0)
        self.assertEqual([network.channel(0), network.call_state(0), network.call_cause(0)], [(1, 0), "idle", 16])
        settle(network, 2)
        self.assertEqual([network.known_area(0), network.calls(), network.lines()], [1, [], []])

    def test_hang_up_in_each_tick_of_a_call(self):
        for answers in (False, True):
            for ticks in range(1, 26):
                for phone in (0, 1):
                    self.assert_hangs_up(answers, ticks, phone)

    def assert_hangs_up(self, answers, ticks, phone):
        network = settled([[30, 0], [0, 30]])
        network.dial(0, number_of(1))
        for _ in range(ticks):
            network.tick()
            if answers and network.call_state(1) == "ringing" and network.calls() == [(0, 1, "ringing")]:
                network.answer(1)
                answers = False
        if network.call_state(phone) in ("idle", "clearing"):
            self.assert_raises_what(NotNow, "hang", network.hang, phone)
            return
        self.assertIsNone(network.hang(phone))
        self.assertEqual([network.call_state(phone), network.call_cause(phone)], ["clearing", 16])
        self.assert_raises_what(NotNow, "hang", network.hang, phone)
        network.tick(40)
        self.assert_states(network, "idle", "idle")
        self.assertEqual([network.links(), network.calls(), network.page(1)], [[], [], None])
        self.assertEqual(network.call_cause(phone), 16)

    def test_what_is_said_at_once_is_sent_in_order(self):
        network = talking([[30, 0], [0, 30]])
        network.say(0, (1,))
        network.say(0, (2,) * 30)
        network.say(0, (3,))
        network.hang(0)
        network.tick(12)
        self.assertEqual(network.words_heard(1), ((1,), (2,) * 30, (3,)))
        self.assertEqual([network.call_state(1), network.call_cause(1)], ["idle", 16])


class StatesTest(NetworkTest):
    """Each command in each state of a call side."""

    def in_state(self, state):
        """A network, and a phone of it whose call side is in this state."""
        network = settled([[30, 0], [0, 30]])
        phone = 1 if state == "ringing" else 0
        if state != "idle":
            network.dial(0, number_of(1))
        if state in ("looking", "alerting", "ringing", "active", "clearing"):
            network.tick(5 if state == "looking" else 10)
        if state in ("active", "clearing"):
            network.answer(1)
            network.tick(3)
        if state == "clearing":
            network.hang(0)
        self.assertEqual(network.call_state(phone), state)
        return network, phone

    def test_each_command_in_each_state(self):
        states = ["idle", "starting", "looking", "alerting", "ringing", "active", "clearing"]
        for name, arguments, fits in (
            ("dial", ("99",), ["idle"]), ("answer", (), ["ringing"]), ("hang", (), states[1:6]), ("say", ((1,),), ["active"]),
            ("text", ("99", "a"), states), ("set_forward", ("busy", "99"), states), ("power", (False,), states),
            ("power", (True,), states),
        ):
            for state in states:
                network, phone = self.in_state(state)
                before = all_answers(network, 2)
                if state in fits:
                    getattr(network, name)(phone, *arguments)
                    if name in ("dial", "hang", "say", "text") or arguments == (False,):
                        self.assertNotEqual(all_answers(network, 2), before, (name, state))
                else:
                    self.assert_raises_what(NotNow, name, getattr(network, name), phone, *arguments)
                    self.assertEqual(all_answers(network, 2), before, (name, state))

    def test_all_is_at_rest_some_time_behind_each_command(self):
        for name, arguments in (("hang", ()), ("power", (False,)), ("text", ("99", "a")), ("say", ((1,),)), ("answer", ())):
            for state in ("starting", "looking", "alerting", "ringing", "active"):
                network, phone = self.in_state(state)
                try:
                    getattr(network, name)(phone, *arguments)
                except NotNow:
                    continue
                network.tick(60)
                talks = [("active", "say"), ("active", "text"), ("ringing", "answer")]
                self.assertEqual(len(network.calls()), 1 if (state, name) in talks else 0)
                self.assertEqual(len(network.links()), 2 if (state, name) in talks else 0)


class TextTest(NetworkTest):
    def test_how_many_parts(self):
        network = settled([[30]])
        for text, parts in (("", 1), ("a" * 160, 1), ("a" * 161, 2), ("a" * 306, 2), ("a" * 307, 3), ("a" * 459, 3)):
            network.power(0, False)
            network.power(0, True)
            self.assertEqual(network.text(0, "99", text), parts)
            self.assertEqual(network.outbox(0), parts)

    def test_errors_in_their_order(self):
        network = settled([[30]])
        for number in ("", "1234567890", "1a"):
            self.assert_out_of_range("number", network.text, 0, number, "`")
        for text in ("`", "a" * 613, "[" * 400):
            self.assert_bare(BadText, network.text, 0, "99", text)
        network.power(0, False)
        self.assert_out_of_range("number", network.text, 0, "", "`")
        self.assert_raises_what(NotNow, "text", network.text, 0, "99", "hello")
        self.assert_raises_what(NotNow, "text", network.text, 0, "99", "`")
        network.power(0, True)
        for _ in range(3):
            network.text(0, "99", "a" * 612)
        self.assert_bare(BadText, network.text, 0, "99", "`")
        self.assert_raises_what(NotNow, "room", network.text, 0, "99", "a")
        self.assert_out_of_range("number", network.text, 0, "", "a")

    def test_twelve_parts_and_the_13th(self):
        network = settled([[30]])
        network.set_level(0, 0, 0)
        for count in range(1, 13):
            self.assertEqual(network.text(0, "99", "a"), 1)
            self.assertEqual(network.outbox(0), count)
        self.assert_raises_what(NotNow, "room", network.text, 0, "99", "a")
        self.assertEqual(network.outbox(0), 12)
        network.power(0, False)
        network.power(0, True)
        for _ in range(2):
            network.text(0, "99", "a" * 612)
        self.assertEqual(network.text(0, "99", "a" * 459), 3)
        self.assert_raises_what(NotNow, "room", network.text, 0, "99", "a" * 161)
        self.assertEqual(network.outbox(0), 11)
        self.assertEqual(network.text(0, "99", "a"), 1)

    def marks_of(self, network, phone):
        return [part[5] for _, part in network._phones[phone].outgoing if part[0] == 1]

    def test_marks(self):
        network = built([[0], [0]])
        long = "a" * 161
        network.text(0, "99", long)
        network.text(0, "98", long)
        self.assertEqual(self.marks_of(network, 0), [0, 0, 1, 1])
        network.text(1, "99", long)
        self.assertEqual(self.marks_of(network, 1), [0, 0])
        network.text(0, "99", "short")
        network.text(0, "99", long)
        self.assertEqual(self.marks_of(network, 0), [0, 0, 1, 1, 3, 3])
        for told in range(4, 260):
            network.power(0, False)
            network.power(0, True)
            network.text(0, "99", long)
            self.assertEqual(self.marks_of(network, 0), [told % 256] * 2)

    def test_texts_that_are_refused_count_for_no_mark(self):
        network = built([[0]])
        self.assert_bare(BadText, network.text, 0, "99", "`")
        self.assert_out_of_range("number", network.text, 0, "", "a")
        for _ in range(3):
            network.text(0, "99", "a" * 459)
        self.assertEqual(network.outbox(0), 9)
        self.assert_raises_what(NotNow, "room", network.text, 0, "99", "a" * 612)
        network.text(0, "99", "a" * 161)
        self.assertEqual(self.marks_of(network, 0), [0, 0, 0, 1, 1, 1, 2, 2, 2, 3, 3])
        network.power(0, False)
        self.assert_raises_what(NotNow, "text", network.text, 0, "99", "a")
        network.power(0, True)
        network.text(0, "99", "a" * 161)
        self.assertEqual(self.marks_of(network, 0), [4, 4])


class ForwardTest(NetworkTest):
    def test_set_forward(self):
        network = built([[20], [20]])
        for kind in ("always", "busy", "unanswered", "unreachable"):
            self.assertIsNone(network.set_forward(0, kind, "123456789"))
            self.assertEqual(network.set_forward(0, kind, "1"), "123456789")
            self.assertEqual(network.set_forward(0, kind, None), "1")
            self.assertIsNone(network.set_forward(0, kind, None))
            self.assertIsNone(network.set_forward(1, kind, None))

    def test_errors_in_their_order(self):
        network = built([[20], [20]])
        for kind in ("", "never", "Always"):
            self.assert_out_of_range("kind", network.set_forward, 0, kind, "12")
            self.assert_out_of_range("kind", network.set_forward, 0, kind, "")
            self.assert_out_of_range("kind", network.set_forward, 0, kind, None)
        for number in ("", "1234567890", "1x", " "):
            self.assert_out_of_range("number", network.set_forward, 0, "busy", number)
        self.assertIsNone(network.set_forward(0, "busy", None))

    def test_it_may_be_set_for_a_phone_that_is_off_and_with_ticks_done(self):
        network = settled([[30, 0], [0, 30]])
        network.power(1, False)
        network.set_forward(1, "always", number_of(0))
        self.assertEqual(network.set_forward(1, "always", "99"), number_of(0))
        network.dial(0, number_of(1))
        network.tick(10)
        self.assertEqual([network.call_state(0), network.call_cause(0)], ["idle", 1])


class RefusedTest(NetworkTest):
    def test_a_refused_command_changes_nothing(self):
        network = settled([[30, 0], [0, 30]])
        network.power(0, False)
        before = all_answers(network, 2)
        for name, *arguments in (
            ("dial", "1234567890"), ("dial", number_of(1)), ("answer",), ("hang",), ("say", (1,)), ("say", ()),
            ("text", "", "a"), ("text", "99", "`"), ("text", "99", "a"), ("set_forward", "never", "1"),
            ("set_forward", "busy", ""), ("set_level", 9, 1), ("set_level", 0, 64), ("lose", "up", 101),
            ("lose", "left", 1), ("harm", "up", [1, 1]), ("harm", "left", [1]),
        ):
            with self.assertRaises(MobileError):
                getattr(network, name)(0, *arguments)
            self.assertEqual(all_answers(network, 2), before, (name, arguments))
        for count in (0, 401):
            self.assert_out_of_range("count", network.tick, count)
        self.assert_raises_what(NotNow, "phone", network.add_phone, "999999", "99")
        self.assertEqual(all_answers(network, 2), before)
        network.tick(20)
        self.assertEqual(all_answers(network, 2)[1:], before[1:])

    def test_refused_commands_in_a_call(self):
        network = settled([[30, 0], [0, 30]])
        other = settled([[30, 0], [0, 30]])
        for step in range(40):
            for one in (network, other):
                if step == 2:
                    one.dial(0, number_of(1))
                if one.call_state(1) == "ringing" and step == 20:
                    one.answer(1)
                one.tick()
            # What is refused in the first network leaves it like the second one.
            for phone in (0, 1):
                for name, *arguments in (("dial", ""), ("say", ()), ("text", "99", "`"), ("lose", "up", 101),
                                         ("harm", "down", [456]), ("set_level", 0, 64)):
                    with self.assertRaises(ValueError):
                        getattr(network, name)(phone, *arguments)
                if network.call_state(phone) != "active":
                    self.assert_raises_what(NotNow, "say", network.say, phone, (1,))
                if network.call_state(phone) in ("idle", "clearing"):
                    self.assert_raises_what(NotNow, "hang", network.hang, phone)
                else:
                    self.assert_raises_what(NotNow, "dial", network.dial, phone, "99")
            self.assertEqual(all_answers(network, 2), all_answers(other, 2))
        self.assert_talking(network, 0, 1)

    def test_a_refused_loss_and_a_refused_harm_leave_the_earlier_ones(self):
        network = talking([[30, 0], [0, 30]])
        network.lose(0, "up", 12)
        self.assert_out_of_range("blocks", network.lose, 0, "up", 101)
        self.assert_out_of_range("way", network.lose, 0, "left", 0)
        network.tick(12)
        self.assertEqual(network.calls(), [])


class BetweenTicksTest(NetworkTest):
    def test_questions_change_nothing(self):
        network = talking([[30, 0], [0, 30]])
        before = all_answers(network, 2)
        for _ in range(5):
            self.assertEqual(all_answers(network, 2), before)

    def test_lists_that_are_returned(self):
        network = talking([[30, 0], [0, 30]])
        network.text(0, number_of(1), "hello")
        network.hang(0)
        settle(network, 2)
        talk(network, 1, 0)
        before = all_answers(network, 2)
        for rows in (network.links(), network.calls(), network.lines(), network.texts(1), network.wants(0)):
            self.assertIs(type(rows), list)
            rows.append("more")
            rows[0] = None
        self.assertEqual(all_answers(network, 2), before)

    def test_kinds_of_what_is_returned(self):
        network = talking([[30, 0], [0, 30]])
        self.assertEqual(network.links(), [(0, 0, (0, 0), None, False), (1, 1, (1, 0), None, False)])
        for link in network.links():
            self.assertEqual([type(part) for part in link], [int, int, tuple, type(None), bool])
        self.assertEqual([type(network.words_said(0)), type(network.channel(0)), type(network.is_on(0))], [tuple, tuple, bool])

    def test_commands_happen_in_the_order_of_the_calls(self):
        network = settled([[30, 0], [0, 30]])
        network.dial(0, number_of(1))
        network.hang(0)
        network.dial(0, "99")
        network.tick(10)
        self.assertEqual([network.call_state(0), network.call_cause(0)], ["idle", 1])
        network.power(0, False)
        network.power(0, True)
        self.assertEqual([network.camp(0), network.known_area(0)], [None, None])


if __name__ == "__main__":
    unittest.main()
