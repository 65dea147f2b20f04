"""The network's side by itself (points 126, 127 and 131 to 135): its links are fed with messages one by one."""

import unittest

from mobileair.exchange import Exchange
from mobileair.messages import write_message
from mobileair.reading import read_message
from mobileair.signals import Signals
from mobileair.store import Store
from tests.helpers import ProgramTest
from tests.networks import digits_of, number_of

PART = (0, 1, 97)


def office(persons=4, areas=(0, 0, 0, 0)):
    exchange = Exchange([6, 6])
    for person in range(persons):
        exchange.home.add(digits_of(person), number_of(person))
        exchange.home.set_area(person, areas[person])
    return exchange


class ExchangeTest(ProgramTest):
    def link(self, exchange, phone, *messages):
        """A new network link of a phone, whose end is up, and on which these messages come."""
        exchange.begin(phone, (0, exchange.pool.free(0, 0)), 0)
        link = exchange.current[-1]
        link.terminal.take(("setup", (0,)))
        link.terminal.messages()
        for message in messages:
            exchange.act(link, message, 5)
        return link

    def told(self, link):
        """What is told on a link, and was not asked for before."""
        found = []
        row = ()
        for _ in range(200):
            frame = link.terminal.send()
            if frame is not None and frame[0] == "info":
                link.terminal.take(("ready", (frame[1] + 1) % 8))
                row += frame[4]
                if not frame[3]:
                    found.append(read_message(row))
                    row = ()
        return found

    def call_link(self, exchange, person, *messages):
        return self.link(exchange, person, ("service", "call", digits_of(person)), *messages)

    def texts_link(self, exchange, person, *messages):
        return self.link(exchange, person, ("service", "texts", digits_of(person)), *messages)


class KnownTest(ExchangeTest):
    def test_before_a_person_is_known(self):
        exchange = office()
        messages = [("setup", number_of(1)), ("alerting",), ("connect",), ("connect done",), ("word", (1,)),
                    ("disconnect", 16), ("submit", 0, number_of(1), PART), ("taken",), ("handover done",), ("stored",),
                    ("area accept", 1), ("service accept",), ("release",), ("proceeding",)]
        link = self.link(exchange, 0, *messages)
        self.assertEqual([link.person, link.released, self.told(link)], [None, False, []])
        self.assertEqual([exchange.switch.calls(), exchange.store.many(1), exchange.pages.reason(1)], [[], 0, None])
        exchange.act(link, ("service", "call", digits_of(0)), 5)
        self.assertEqual([link.person, self.told(link)], [0, [("service accept",)]])

    def test_digits_of_somebody_in_another_message(self):
        exchange = office()
        link = self.link(exchange, 0, ("setup", digits_of(0)))
        self.assertEqual([link.person, link.released, self.told(link)], [None, False, []])

    def test_digits_of_nobody(self):
        for message in (("area update", 1, "999999"), ("service", "call", "999999"), ("service", "texts", "999999"),
                        ("page answer", "999999")):
            exchange = office()
            other = self.call_link(exchange, 0)
            link = self.link(exchange, 0, message, ("setup", number_of(1)), ("submit", 0, number_of(1), PART))
            self.assertEqual([link.person, link.released, self.told(link)], [None, False, []])
            self.assertEqual([exchange.current, exchange.home.area(0)], [[other, link], 0])
            self.assertEqual([exchange.switch.calls(), exchange.store.many(1)], [[], 0])

    def test_an_area_update(self):
        exchange = office(areas=(None, 0, 0, 0))
        link = self.link(exchange, 0, ("area update", 3, digits_of(0)))
        self.assertEqual([exchange.home.area(0), link.person, link.released], [3, 0, True])
        self.assertEqual(self.told(link), [("area accept", 3), ("release",)])

    def test_a_service(self):
        for wish in ("call", "texts"):
            link = self.link(office(), 0, ("service", wish, digits_of(0)))
            self.assertEqual([link.person, link.released, link.purpose], [0, False, wish])
            self.assertEqual(self.told(link), [("service accept",)])

    def test_the_person_is_that_of_the_digits(self):
        exchange = office()
        link = self.link(exchange, 0, ("service", "call", digits_of(2)))
        self.assertEqual(link.person, 2)

    def test_a_page_answer(self):
        exchange = office()
        link = self.link(exchange, 1, ("page answer", digits_of(1)))
        self.assertEqual([link.person, link.released, self.told(link)], [1, True, [("release",)]])

    def test_a_page_answer_without_a_page_delivers_nothing(self):
        exchange = office()
        exchange.store.put(1, "777", PART)
        link = self.link(exchange, 1, ("page answer", digits_of(1)))
        self.assertEqual([link.released, self.told(link), exchange.store.many(1)], [True, [("release",)], 1])

    def test_a_page_answer_for_a_call(self):
        exchange = office()
        self.call_link(exchange, 0, ("setup", number_of(1)))
        self.assertEqual(exchange.pages.reason(1), "call")
        link = self.link(exchange, 1, ("page answer", digits_of(1)))
        self.assertEqual([exchange.pages.reason(1), exchange.switch.calls()], [None, [(0, 1, "offered")]])
        self.assertEqual([link.released, self.told(link)], [False, [("setup", number_of(0))]])

    def test_a_page_answer_for_texts(self):
        exchange = office()
        exchange.store.put(1, "777", PART)
        exchange.pages.ask(1, "texts")
        link = self.link(exchange, 1, ("page answer", digits_of(1)))
        self.assertEqual([exchange.pages.reason(1), link.purpose, link.released], [None, "delivery", False])
        self.assertEqual(self.told(link), [("deliver", "777", PART)])

    def test_a_page_answer_for_texts_of_which_none_is_left(self):
        exchange = office()
        exchange.pages.ask(1, "texts")
        link = self.link(exchange, 1, ("page answer", digits_of(1)))
        self.assertEqual([exchange.pages.reason(1), link.released, self.told(link)], [None, True, [("release",)]])

    def test_a_second_link_of_one_person(self):
        for message in (("area update", 1, digits_of(1)), ("service", "call", digits_of(1)), ("page answer", digits_of(1))):
            exchange = office()
            caller = self.call_link(exchange, 0, ("setup", number_of(1)))
            first = self.link(exchange, 1, ("page answer", digits_of(1)), ("connect",))
            exchange.act(caller, ("connect done",), 5)
            self.assertEqual(exchange.switch.calls(), [(0, 1, "active")])
            exchange.store.put(1, "777", PART)
            second = self.link(exchange, 1, message)
            # The first one ends as lost, and its call with it; no page is asked for, as there is the second one.
            self.assertEqual([exchange.current, exchange.switch.calls()], [[caller, second], []])
            self.assertEqual(exchange.switch.book.lines(), [(0, 1, 5, 5, 27)])
            self.assertEqual(self.told(caller)[-2:], [("disconnect", 27), ("release",)])
            self.assertEqual([exchange.pool.owner(*first.place), second.person], [None, 1])
            self.assertIsNone(exchange.pages.reason(1))

    def test_a_message_of_a_link_whose_person_is_known_already(self):
        for message in (("area update", 2, digits_of(1)), ("service", "texts", digits_of(1)), ("page answer", digits_of(1)),
                        ("area update", 2, digits_of(0)), ("page answer", digits_of(0))):
            exchange = office()
            exchange.pages.ask(1, "texts")
            link = self.call_link(exchange, 0, message)
            self.assertEqual([link.person, link.purpose, link.released], [0, "call", False])
            self.assertEqual([exchange.home.area(0), exchange.home.area(1), exchange.pages.reason(1)], [0, 0, "texts"])
            self.assertEqual(self.told(link), [("service accept",)])


class CallTest(ExchangeTest):
    def test_a_setup_on_a_link_for_a_call(self):
        exchange = office()
        link = self.call_link(exchange, 0, ("setup", number_of(1)))
        self.assertEqual([exchange.switch.calls(), link.purpose], [[(0, 1, "looking")], None])
        self.assertEqual(self.told(link), [("service accept",), ("proceeding",)])

    def test_a_setup_twice(self):
        exchange = office()
        link = self.call_link(exchange, 0, ("setup", number_of(1)), ("setup", number_of(2)), ("setup", number_of(1)))
        self.assertEqual([exchange.switch.calls(), link.released], [[(0, 1, "looking")], False])
        self.assertEqual(self.told(link), [("service accept",), ("proceeding",)])

    def test_a_setup_on_another_link(self):
        exchange = office()
        link = self.texts_link(exchange, 0, ("setup", number_of(1)))
        self.assertEqual([exchange.switch.calls(), self.told(link)], [[], [("service accept",)]])
        exchange.pages.ask(2, "call")
        link = self.link(exchange, 2, ("page answer", digits_of(2)), ("setup", number_of(1)))
        self.assertEqual([exchange.switch.calls(), self.told(link)], [[], []])

    def test_a_setup_that_finds_no_goal(self):
        for number, cause in (("99", 1), (number_of(0), 17), (number_of(3), 20)):
            exchange = office(areas=(0, 0, 0, None))
            link = self.call_link(exchange, 0, ("setup", number))
            self.assertEqual([exchange.switch.calls(), link.released], [[], True])
            self.assertEqual(self.told(link), [("service accept",), ("disconnect", cause), ("release",)])

    def test_persons_with_a_link_are_busy(self):
        exchange = office()
        self.texts_link(exchange, 1)
        link = self.call_link(exchange, 0, ("setup", number_of(1)))
        self.assertEqual(self.told(link)[1:], [("disconnect", 17), ("release",)])

    def test_the_events_of_a_call(self):
        exchange = office()
        caller = self.call_link(exchange, 0, ("setup", number_of(1)))
        called = self.link(exchange, 1, ("page answer", digits_of(1)))
        for link, message, at_caller, at_called in (
            (called, ("alerting",), [("alerting",)], []),
            (called, ("connect",), [("connect",)], [("connect done",)]),
            (caller, ("word", (1, 2)), [], [("word", (1, 2))]),
            (caller, ("connect done",), [], []),
            (called, ("word", (3,)), [("word", (3,))], []),
            (called, ("disconnect", 31), [("disconnect", 31), ("release",)], [("release",)]),
        ):
            self.told(caller)
            self.told(called)
            exchange.act(link, message, 9)
            self.assertEqual([self.told(caller), self.told(called)], [at_caller, at_called], message)
        self.assertEqual(exchange.switch.book.lines(), [(0, 1, 9, 9, 31)])

    def test_a_side_without_a_link_is_told_nothing(self):
        exchange = office()
        exchange.switch.start(0, number_of(1), [0], 5)
        exchange.pages.ask(1, "call")
        called = self.link(exchange, 1, ("page answer", digits_of(1)), ("alerting",), ("disconnect", 16))
        self.assertEqual([exchange.switch.calls(), called.released], [[], True])
        self.assertEqual(self.told(called), [("setup", number_of(0)), ("release",)])

    def test_a_disconnect_of_a_person_without_a_call(self):
        exchange = office()
        link = self.texts_link(exchange, 0, ("disconnect", 16))
        self.assertEqual([link.released, self.told(link)], [True, [("service accept",), ("release",)]])

    def test_what_comes_on_a_released_link(self):
        for messages in ([("setup", number_of(1))], [("submit", 0, number_of(1), PART)], [("word", (1,))],
                         [("disconnect", 16)], [("taken",)], [("area update", 2, digits_of(0))]):
            for wish in ("call", "texts"):
                exchange = office()
                link = self.link(exchange, 0, ("service", wish, digits_of(0)))
                link.release()
                self.told(link)
                for message in messages:
                    exchange.act(link, message, 5)
                self.assertEqual([self.told(link), exchange.switch.calls(), exchange.store.many(1)], [[], [], 0])
                self.assertEqual([link.purpose, exchange.home.area(0)], [wish, 0])
        exchange = office()
        caller = self.call_link(exchange, 0, ("setup", number_of(1)))
        called = self.link(exchange, 1, ("page answer", digits_of(1)), ("connect",))
        exchange.act(caller, ("disconnect", 16), 5)
        self.told(caller)
        self.assertTrue(called.released)
        exchange.act(called, ("word", (1,)), 5)
        exchange.act(called, ("disconnect", 16), 5)
        self.assertEqual(self.told(caller), [])

    def test_all_other_messages(self):
        others = [("area accept", 1), ("service accept",), ("release",), ("handover", 1, 1), ("handover done",),
                  ("proceeding",), ("stored",), ("refused",), ("deliver", "1", PART), ("taken",)]
        for wish in ("call", "texts"):
            exchange = office()
            link = self.link(exchange, 0, ("service", wish, digits_of(0)), *others)
            self.assertEqual([link.released, link.purpose, self.told(link)], [False, wish, [("service accept",)]])

    def test_release_twice(self):
        link = self.call_link(office(), 0)
        link.release()
        link.release()
        self.assertEqual(self.told(link), [("service accept",), ("release",)])
        link.tell(("alerting",))
        self.assertEqual(self.told(link), [])

    def test_nothing_is_told_to_an_end_that_is_not_up(self):
        exchange = office()
        exchange.begin(0, (0, 0), 0)
        link = exchange.current[0]
        link.tell(("alerting",))
        link.release()
        self.assertEqual([link.terminal.idle, link.released], [True, True])


class HandoverTest(ExchangeTest):
    def active(self):
        """A call of persons 0 and 1, and signals by which another cell is better for phone 0."""
        exchange = office()
        caller = self.call_link(exchange, 0, ("setup", number_of(1)))
        self.link(exchange, 1, ("page answer", digits_of(1)), ("connect",))
        exchange.act(caller, ("connect done",), 5)
        self.told(caller)
        signals = Signals(2, 2)
        signals.set_level(0, 1, 10)
        return exchange, caller, signals

    def test_three_ticks_in_a_row(self):
        exchange, caller, signals = self.active()
        for tick, second in ((6, None), (7, None), (8, (1, 0)), (9, (1, 0))):
            exchange.hand_over(signals, tick)
            self.assertEqual(caller.second, second)
        self.assertEqual([self.told(caller), exchange.pool.held_by(caller.key)],
                         [[("handover", 1, 0)], [caller.place, (1, 0)]])

    def test_a_released_link(self):
        exchange, caller, signals = self.active()
        exchange.hand_over(signals, 6)
        exchange.hand_over(signals, 7)
        caller.release()
        for tick in range(8, 14):
            exchange.hand_over(signals, tick)
        self.assertEqual([caller.second, self.told(caller)], [None, [("release",)]])

    def test_a_link_whose_end_has_failed_holds_the_channel_all_the_same(self):
        exchange, caller, signals = self.active()
        caller.tell(("word", (1,)))
        for _ in range(19):
            caller.terminal.send()
        self.assertEqual(caller.terminal.state, "failed")
        for tick in (6, 7, 8):
            exchange.hand_over(signals, tick)
        self.assertEqual(caller.second, (1, 0))
        exchange.finish(caller, True, 8)
        self.assertEqual(exchange.pool.status(1, 0, 8), "rests")


class TextsTest(ExchangeTest):
    def test_a_submit(self):
        exchange = office()
        link = self.texts_link(exchange, 0, ("submit", 1, number_of(1), PART))
        self.assertEqual([exchange.store.many(1), exchange.store.first(1)], [1, (number_of(0), PART)])
        self.assertEqual([exchange.pages.reason(1), link.purpose, link.released], ["texts", "texts", False])
        self.assertEqual(self.told(link), [("service accept",), ("stored",)])
        exchange.act(link, ("submit", 0, number_of(1), (0, 0)), 5)
        self.assertEqual([exchange.store.many(1), exchange.store.first(1)], [2, (number_of(0), PART)])
        self.assertEqual([self.told(link), link.released], [[("stored",), ("release",)], True])

    def test_a_submit_on_another_link(self):
        exchange = office()
        link = self.call_link(exchange, 0, ("submit", 0, number_of(1), PART))
        self.assertEqual([self.told(link), link.released, exchange.store.many(1)], [[("service accept",)], False, 0])
        link = self.texts_link(exchange, 2, ("submit", 0, "99", PART), ("submit", 0, number_of(1), PART))
        self.assertEqual([self.told(link), exchange.store.many(1)], [[("service accept",), ("refused",), ("release",)], 0])

    def test_a_submit_behind_a_delivery(self):
        exchange = office()
        exchange.store.put(0, "777", PART)
        link = self.texts_link(exchange, 0, ("submit", 0, "99", PART), ("submit", 0, number_of(1), PART))
        self.assertEqual([link.purpose, exchange.store.many(1)], ["delivery", 0])
        self.assertEqual(self.told(link), [("service accept",), ("refused",), ("deliver", "777", PART)])

    def test_to_nobody(self):
        for left in (0, 1, 11):
            exchange = office()
            link = self.texts_link(exchange, 0, ("submit", left, "99", PART))
            self.assertEqual(self.told(link), [("service accept",), ("refused",)] + [("release",)] * (left == 0))
            self.assertEqual(link.released, left == 0)

    def test_40_stored_parts(self):
        exchange = office()
        link = self.texts_link(exchange, 0)
        for count in range(40):
            exchange.act(link, ("submit", 1, number_of(1 + count % 3), (0, 0)), 5)
            self.told(link)
        self.assertEqual([exchange.store.many(person) for person in range(4)], [0, 14, 13, 13])
        for number in (number_of(1), number_of(0), "99"):
            exchange.act(link, ("submit", 1, number, PART), 5)
            self.assertEqual(self.told(link), [("refused",)])
        self.assertEqual([exchange.store.many(person) for person in range(4)], [0, 14, 13, 13])
        exchange.store.drop_first(2)
        exchange.act(link, ("submit", 1, number_of(0), PART), 5)
        self.assertEqual([self.told(link), exchange.store.many(0)], [[("stored",)], 1])
        exchange.act(link, ("submit", 0, number_of(2), PART), 5)
        self.assertEqual(self.told(link), [("refused",), ("deliver", number_of(0), PART)])

    def test_to_oneself(self):
        exchange = office()
        link = self.texts_link(exchange, 0, ("submit", 0, number_of(0), PART))
        self.assertEqual([exchange.pages.reason(0), exchange.store.many(0)], [None, 1])
        self.assertEqual(self.told(link), [("service accept",), ("stored",), ("deliver", number_of(0), PART)])
        exchange.act(link, ("taken",), 5)
        self.assertEqual([self.told(link), exchange.store.many(0)], [[("release",)], 0])

    def test_when_a_page_is_asked_for(self):
        for prepare, wanted in (
            (lambda exchange: None, "texts"), (lambda exchange: exchange.home.set_area(1, None), None),
            (lambda exchange: self.call_link(exchange, 1), None), (lambda exchange: exchange.pages.ask(1, "call"), "call"),
            (lambda exchange: self.link(exchange, 1), "texts"),
        ):
            exchange = office()
            prepare(exchange)
            self.texts_link(exchange, 0, ("submit", 1, number_of(1), PART))
            self.assertEqual([exchange.pages.reason(1), exchange.store.many(1)], [wanted, 1])

    def test_a_page_that_is_there_keeps_its_place(self):
        exchange = office()
        exchange.pages.ask(1, "texts")
        exchange.pages.step(3, [0, 0, 0, 0])
        self.texts_link(exchange, 0, ("submit", 1, number_of(1), PART))
        self.assertEqual(exchange.pages.sent(1), 1)

    def test_deliver_until_nothing_is_left(self):
        exchange = office()
        for at in range(3):
            exchange.store.put(1, str(at), (0, 1, 97 + at))
        exchange.pages.ask(1, "texts")
        link = self.link(exchange, 1, ("page answer", digits_of(1)))
        for at in range(3):
            self.assertEqual([self.told(link), exchange.store.many(1)], [[("deliver", str(at), (0, 1, 97 + at))], 3 - at])
            exchange.act(link, ("taken",), 5)
        self.assertEqual([self.told(link), link.released, exchange.store.many(1)], [[("release",)], True, 0])

    def test_taken_on_another_link(self):
        exchange = office()
        exchange.store.put(0, "777", PART)
        for link in (self.call_link(exchange, 0, ("taken",)), self.texts_link(exchange, 0, ("taken",))):
            self.assertEqual([exchange.store.many(0), self.told(link)], [1, [("service accept",)]])

    def test_the_end_of_a_link(self):
        for is_lost in (False, True):
            for prepare, wanted in (
                (lambda exchange: None, "texts"), (lambda exchange: exchange.home.set_area(0, None), None),
                (lambda exchange: exchange.pages.ask(0, "call"), "call"), (lambda exchange: exchange.store.drop_first(0), None),
            ):
                exchange = office()
                exchange.store.put(0, "777", PART)
                link = self.texts_link(exchange, 0)
                prepare(exchange)
                exchange.finish(link, is_lost, 7)
                self.assertEqual([exchange.pages.reason(0), exchange.current], [wanted, []])
                self.assertEqual([exchange.pool.status(0, 0, 16), exchange.pool.status(0, 0, 17)], ["rests", "free"])
                self.assertEqual(self.told(link), [("service accept",)])

    def test_the_end_of_a_link_of_nobody(self):
        exchange = office()
        exchange.store.put(0, "777", PART)
        link = self.link(exchange, 0)
        exchange.finish(link, True, 7)
        self.assertEqual([exchange.pages.reason(0), exchange.current], [None, []])

    def test_only_a_lost_link_ends_the_call(self):
        for is_lost in (False, True):
            exchange = office()
            caller = self.call_link(exchange, 0, ("setup", number_of(1)))
            exchange.finish(caller, is_lost, 7)
            self.assertEqual(exchange.switch.calls(), [] if is_lost else [(0, 1, "looking")])
            self.assertEqual(exchange.pages.reason(1), None if is_lost else "call")


class StoreTest(ProgramTest):
    def test_nothing_is_stored_at_first(self):
        store = Store()
        self.assertIsNone(store.drop_first(2))
        self.assertEqual([store.many(2), store.first(2), store.has_room()], [0, None, True])

    def test_the_parts_of_each_person_stand_in_order(self):
        store = Store()
        for person, sender in ((1, "5"), (2, "6"), (1, "7")):
            store.put(person, sender, PART)
        self.assertEqual([store.many(person) for person in (0, 1, 2)], [0, 2, 1])
        self.assertEqual([store.first(1), store.first(2)], [("5", PART), ("6", PART)])
        store.drop_first(1)
        self.assertEqual([store.first(1), store.first(2)], [("7", PART), ("6", PART)])
        store.drop_first(1)
        store.drop_first(1)
        self.assertEqual([store.many(1), store.first(1), store.many(2)], [0, None, 1])

    def test_room(self):
        store = Store()
        for at in range(40):
            self.assertTrue(store.has_room())
            store.put(at % 3, "5", PART)
        self.assertFalse(store.has_room())
        store.drop_first(2)
        self.assertTrue(store.has_room())


class BlockTest(ExchangeTest):
    def test_blocks_that_hold_no_message(self):
        exchange = office()
        link = self.call_link(exchange, 0)
        self.told(link)
        for at, octets in enumerate(((3, 37, 128), (1, 2, 3), (5, 36, 1, 17), (9, 1))):
            self.assertIsNone(read_message(octets))
            block = (3, 2 * at, 4 * len(octets) + 1, *octets, *[43] * (20 - len(octets)))
            exchange.take(link.key, link.place, block, 8)
        self.assertEqual([link.released, link.purpose, self.told(link), link.last], [False, "call", [], 8])
        octets = write_message(("disconnect", 16))
        exchange.take(link.key, link.place, (3, 8, 13, *octets, *[43] * 17), 9)
        self.assertEqual([link.released, self.told(link)], [True, [("release",)]])

    def test_a_link_that_has_ended_takes_nothing(self):
        exchange = office()
        link = self.call_link(exchange, 0)
        exchange.finish(link, False, 5)
        exchange.take(link.key, link.place, (43,) * 23, 8)
        self.assertEqual(link.last, -1)


if __name__ == "__main__":
    unittest.main()
