"""A phone by itself (points 115 to 117, 125 and 136 to 141): its link is fed with messages one by one."""

import unittest

from mobileair.messages import write_message
from mobileair.parts import cut
from mobileair.phone import Phone, PhoneLink
from mobileair.reading import read_message
from tests.helpers import ProgramTest

WISHES = ("page", "area", "call", "texts")
PART = (0, 1, 97)


class PhoneTest(ProgramTest):
    def phone(self, wish="call"):
        """A phone that is on and has a link for what it wants, whose end is up."""
        phone = Phone("123456")
        if wish == "call":
            phone.side.dial("77")
        self.connect(phone, wish)
        return phone

    def connect(self, phone, wish):
        phone.powered = True
        phone.cell = 0
        phone.begin(PhoneLink(0, wish, (0, 1), 5), 2)
        phone.link.terminal.send()
        phone.take(("accept",))
        self.taken = 0

    def give(self, phone, *messages):
        """Let messages come at the phone; return the messages that it sends back."""
        answers = []
        for message in messages:
            octets = write_message(message)
            rows = [octets[at:at + 20] for at in range(0, len(octets), 20)]
            for at, row in enumerate(rows):
                phone.take(("info", self.taken, phone.link.terminal._sending, at + 1 < len(rows), row))
                self.taken = (self.taken + 1) % 8
            answers.extend(self.sent(phone))
        return answers

    def sent(self, phone):
        found, row = [], ()
        for _ in range(40):
            frame = phone.link.terminal.send()
            if frame is not None and frame[0] == "info":
                phone.take(("ready", (frame[1] + 1) % 8))
                row += frame[4]
                if not frame[3]:
                    found.append(read_message(row))
                    row = ()
        return found


class LinkTest(PhoneTest):
    def test_first_messages(self):
        for wish, message in (("page", ("page answer", "123456")), ("area", ("area update", 2, "123456")),
                              ("call", ("service", "call", "123456")), ("texts", ("service", "texts", "123456"))):
            phone = Phone("123456")
            phone.tries = 2
            link = PhoneLink(0, wish, (0, 1), 5)
            phone.begin(link, 2)
            self.assertEqual([phone.tries, phone.link], [0, link])
            self.assertEqual(link.terminal.send(), ("setup", write_message(message)))

    def test_area_accept(self):
        for wish in WISHES:
            phone = self.phone(wish)
            self.assertEqual(self.give(phone, ("area accept", 3)), [])
            self.assertEqual([phone.known, phone.link.leaving], [3, False])

    def test_release(self):
        for wish in WISHES:
            phone = self.phone(wish)
            self.assertEqual(self.give(phone, ("release",)), [])
            self.assertEqual([phone.link.leaving, phone.link is None], [True, False])

    def test_handover(self):
        for wish in WISHES:
            phone = self.phone(wish)
            self.assertEqual(self.give(phone, ("handover", 3, 5)), [("handover done",)])
            self.assertEqual([phone.link.place, phone.cell], [(3, 5), 0])

    def test_messages_for_the_call_side(self):
        phone = self.phone("call")
        self.assertEqual(self.give(phone, ("service accept",), ("service accept",)), [("setup", "77")])
        self.assertEqual(self.give(phone, ("proceeding",), ("alerting",), ("connect",)), [("connect done",)])
        self.assertEqual(self.give(phone, ("word", (1, 2))), [])
        self.assertEqual([phone.side.state, phone.side.heard], ["active", ((1, 2),)])
        self.assertEqual(self.give(phone, ("disconnect", 31), ("word", (3,)), ("disconnect", 1)), [])
        self.assertEqual([phone.side.state, phone.side.cause, phone.side.heard], ["idle", 31, ((1, 2),)])

    def test_a_call_on_a_link_for_a_page(self):
        phone = self.phone("page")
        self.assertEqual(self.give(phone, ("setup", "55")), [("alerting",)])
        phone.give(phone.side.answer())
        self.assertEqual(self.sent(phone), [("connect",)])
        self.assertEqual(self.give(phone, ("connect done",)), [])
        self.assertEqual(phone.side.state, "active")

    def test_messages_that_change_nothing(self):
        others = [("area update", 1, "123456"), ("service", "call", "123456"), ("service", "texts", "123456"),
                  ("page answer", "123456"), ("handover done",), ("submit", 0, "1", PART), ("taken",), ("alerting",),
                  ("connect",), ("connect done",), ("word", (1,)), ("proceeding",), ("disconnect", 5)]
        for wish in ("page", "area", "texts"):
            phone = self.phone(wish)
            phone.outgoing = [("1", PART)]
            self.assertEqual(self.give(phone, *others), [])
            self.assertEqual([phone.side.state, phone.side.cause, phone.known, phone.read, phone.link.place],
                             ["idle", 0, None, [], (0, 1)])
            self.assertEqual([phone.outgoing, phone.link.leaving], [[("1", PART)], False])

    def test_stored_and_refused_on_another_link(self):
        for wish in ("page", "area", "call"):
            phone = self.phone(wish)
            phone.outgoing = [("1", PART)]
            self.assertEqual(self.give(phone, ("stored",), ("refused",)), [])
            self.assertEqual(phone.outgoing, [("1", PART)])

    def test_octets_that_are_no_message(self):
        phone = self.phone("call")
        phone.take(("info", 0, 0, False, (3, 37, 128)))
        self.assertEqual([self.sent(phone), phone.side.state], [[], "starting"])

    def test_answers_are_given_to_an_end_that_is_up_only(self):
        phone = self.phone("page")
        terminal = phone.link.terminal
        phone.give(("alerting",))
        for _ in range(19):
            terminal.send()
        self.assertEqual(terminal.state, "failed")
        phone.give(("connect",))
        phone.link = None
        phone.give(("connect",))

    def test_commands_are_given_to_an_end_that_is_rising(self):
        phone = Phone("123456")
        phone.side.dial("77")
        phone.begin(PhoneLink(0, "call", (0, 1), 5), 2)
        phone.link.terminal.send()
        phone.give(phone.side.hang(True))
        phone.take(("accept",))
        self.assertEqual(self.sent(phone), [("disconnect", 16)])


class LeaveTest(PhoneTest):
    def test_leave_and_lose(self):
        for wish in WISHES:
            for lose, cause in ((False, 0), (True, 27)):
                phone = self.phone(wish)
                self.give(phone, ("handover", 3, 5))
                phone.tries = 2
                phone.lose() if lose else phone.leave()
                self.assertEqual([phone.link, phone.cell, phone.tries, phone.side.state], [None, 3, 0, "idle"])
                self.assertEqual(phone.side.cause, cause if wish == "call" else 0)

    def test_a_phone_that_still_wants_a_call(self):
        for lose in (False, True):
            phone = self.phone("area")
            phone.side.dial("77")
            phone.dialled = True
            phone.lose() if lose else phone.leave()
            self.assertEqual([phone.link, phone.side.state, phone.side.cause], [None, "starting", 0])

    def test_what_is_given_up(self):
        for wish in WISHES:
            phone = Phone("123456")
            phone.paged = True
            phone.dialled = True
            phone.side.dial("77")
            phone.outgoing = [("1", PART), ("2", PART)]
            for tries in (1, 2, 0):
                before = [phone.paged, phone.rest, phone.dialled, phone.side.state, phone.side.cause, len(phone.outgoing)]
                self.assertEqual(before, [True, 0, True, "starting", 0, 2])
                phone.ask_in_vain(wish)
                self.assertEqual(phone.tries, tries)
            found = [phone.paged, phone.rest, phone.dialled, phone.side.state, phone.side.cause, len(phone.outgoing)]
            self.assertEqual(found, {
                "page": [False, 0, True, "starting", 0, 2], "area": [True, 20, True, "starting", 0, 2],
                "call": [True, 0, False, "idle", 47, 2], "texts": [True, 0, True, "starting", 0, 0],
            }[wish])

    def test_all_wishes_in_their_order(self):
        phone = Phone("123456")
        self.assertEqual(phone.wishes([1]), [])
        phone.powered = True
        phone.paged = phone.dialled = True
        phone.outgoing = [("1", PART)]
        self.assertEqual(phone.wishes([1]), ["page", "call", "texts"])
        phone.cell = 0
        self.assertEqual(phone.wishes([1]), list(WISHES))
        phone.known = 1
        self.assertEqual(phone.wishes([1]), ["page", "call", "texts"])
        phone.known = 0
        phone.rest = 1
        self.assertEqual(phone.wishes([1]), ["page", "call", "texts"])
        phone.rest = 0
        self.assertEqual(phone.wishes([1]), list(WISHES))
        phone.link = PhoneLink(0, "area", (0, 0), 0)
        self.assertEqual(phone.wishes([1]), [])


class OutboxTest(PhoneTest):
    def test_several_texts_to_several_numbers(self):
        phone = self.phone("texts")
        pairs = [("1", (0, 1, 97)), ("22", (0, 1, 98)), ("1", (0, 1, 99))]
        phone.outgoing = list(pairs)
        self.assertEqual(self.give(phone, ("service accept",)), [("submit", 2, *pairs[0])])
        self.assertEqual(phone.outgoing, pairs)
        self.assertEqual(self.give(phone, ("stored",)), [("submit", 1, *pairs[1])])
        self.assertEqual(phone.outgoing, pairs[1:])
        self.assertEqual(self.give(phone, ("refused",)), [("submit", 0, *pairs[2])])
        self.assertEqual(phone.outgoing, pairs[2:])
        self.assertEqual(self.give(phone, ("stored",)), [])
        self.assertEqual([phone.outgoing, phone.link.leaving], [[], False])

    def test_texts_that_are_told_in_between_wait(self):
        phone = self.phone("texts")
        phone.outgoing = [("1", PART)]
        self.assertEqual(self.give(phone, ("service accept",)), [("submit", 0, "1", PART)])
        phone.outgoing.append(("2", PART))
        self.assertEqual(self.give(phone, ("stored",)), [])
        self.assertEqual(phone.outgoing, [("2", PART)])

    def test_texts_that_are_told_before_the_service_is_accepted_count(self):
        phone = self.phone("texts")
        phone.outgoing = [("1", PART)]
        phone.outgoing.append(("2", PART))
        self.assertEqual(self.give(phone, ("service accept",)), [("submit", 1, "1", PART)])

    def test_twelve_pairs(self):
        phone = self.phone("texts")
        phone.outgoing = [(str(at), PART) for at in range(12)]
        self.assertEqual(self.give(phone, ("service accept",)), [("submit", 11, "0", PART)])
        for at in range(1, 12):
            self.assertEqual(self.give(phone, ("stored",)), [("submit", 11 - at, str(at), PART)])

    def test_the_call_side_does_not_take_the_service_accept_for_texts(self):
        phone = self.phone("texts")
        phone.outgoing = [("1", PART)]
        phone.side.dial("77")
        self.assertEqual(self.give(phone, ("service accept",)), [("submit", 0, "1", PART)])
        self.assertEqual(phone.side.take(("service accept",)), [("setup", "77")])


class DeliverTest(PhoneTest):
    def test_a_text_of_one_part(self):
        for wish in WISHES:
            phone = self.phone(wish)
            phone.outgoing = [("1", PART)]
            answers = self.give(phone, ("deliver", "12", cut("hello", 0)[0]), ("deliver", "3", cut("", 0)[0]))
            self.assertEqual(answers, [("taken",), ("taken",)])
            self.assertEqual(phone.read, [("12", "hello"), ("3", "")])

    def test_a_text_of_several_parts(self):
        phone = self.phone("page")
        text = "hello [world] " * 30
        parts = cut(text, 9)
        self.assertEqual(len(parts), 4)
        for at, part in enumerate(parts):
            self.assertEqual(phone.read, [])
            self.assertEqual(self.give(phone, ("deliver", "12", part)), [("taken",)])
        self.assertEqual(phone.read, [("12", text)])

    def test_a_part_twice(self):
        phone = self.phone("page")
        first, second = cut("a" * 200, 9)
        self.assertEqual(self.give(phone, ("deliver", "12", first), ("deliver", "12", first)), [("taken",), ("taken",)])
        self.give(phone, ("deliver", "12", second))
        self.assertEqual(phone.read, [("12", "a" * 200)])

    def test_a_collector_for_each_number(self):
        phone = self.phone("page")
        first, second = cut("a" * 200, 9)
        self.give(phone, ("deliver", "12", first), ("deliver", "13", second))
        self.assertEqual(phone.read, [])
        self.give(phone, ("deliver", "13", first))
        self.assertEqual(phone.read, [("13", "a" * 200)])
        self.give(phone, ("deliver", "12", second))
        self.assertEqual(phone.read, [("13", "a" * 200), ("12", "a" * 200)])

    def test_parts_for_which_there_is_no_room(self):
        phone = self.phone("page")
        for mark in range(12):
            self.give(phone, ("deliver", "12", cut("a" * 200, mark)[0]))
        first, second = cut("b" * 200, 50)
        self.assertEqual(self.give(phone, ("deliver", "12", first)), [("taken",)])
        self.assertEqual(phone.read, [])
        # A whole text needs no room, nor does another number's part, nor a part that makes a text whole.
        self.give(phone, ("deliver", "12", PART), ("deliver", "13", first), ("deliver", "12", cut("a" * 200, 3)[1]))
        self.assertEqual(phone.read, [("12", "a"), ("12", "a" * 200)])
        self.give(phone, ("deliver", "12", second))
        self.assertEqual(phone.read, [("12", "a"), ("12", "a" * 200)])
        self.give(phone, ("deliver", "12", cut("a" * 200, 4)[1]), ("deliver", "12", first))
        self.assertEqual(phone.read[2:], [("12", "a" * 200), ("12", "b" * 200)])

    def test_what_was_collected_outlasts_the_link_and_the_power(self):
        phone = self.phone("page")
        first, second = cut("a" * 200, 9)
        self.give(phone, ("deliver", "12", first))
        phone.switch_off()
        self.assertEqual([phone.link, phone.cell, phone.known, phone.powered], [None, None, None, False])
        self.connect(phone, "page")
        self.give(phone, ("deliver", "12", second))
        self.assertEqual(phone.read, [("12", "a" * 200)])


if __name__ == "__main__":
    unittest.main()
