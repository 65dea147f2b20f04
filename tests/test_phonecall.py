"""The phone's side of a call (points 91 to 98)."""

import unittest

from mobileair.errors import NotNow
from mobileair.phonecall import PhoneCall
from tests.helpers import ProgramTest

MESSAGES = [
    ("area update", 1, "123456"), ("area accept", 1), ("service", "call", "123456"), ("service", "texts", "123456"),
    ("service accept",), ("page answer", "123456"), ("release",), ("handover", 1, 2), ("handover done",),
    ("setup", "34"), ("proceeding",), ("alerting",), ("connect",), ("connect done",), ("disconnect", 31),
    ("word", (7, 8)), ("submit", 0, "12", (0, 0)), ("stored",), ("refused",), ("deliver", "12", (0, 0)), ("taken",),
]
ACCEPT, PROCEEDING, ALERTING = ("service accept",), ("proceeding",), ("alerting",)
SETUP, CONNECT, DONE = ("setup", "34"), ("connect",), ("connect done",)

# The ways to each state, and to the two kinds of starting and of ringing: steps that are taken one by one.
WAYS = {
    "idle": [],
    "starting": ["dial"],
    "starting, accepted": ["dial", ACCEPT],
    "looking": ["dial", ACCEPT, PROCEEDING],
    "alerting": ["dial", ACCEPT, PROCEEDING, ALERTING],
    "ringing": [SETUP],
    "ringing, answered": [SETUP, "answer"],
    "active": [SETUP, "answer", DONE],
    "active, caller": ["dial", ACCEPT, PROCEEDING, ALERTING, CONNECT],
    "clearing": ["dial", ACCEPT, PROCEEDING, "hang"],
    "clearing, active": [SETUP, "answer", DONE, "hang"],
}

# What each message does where it has a rule: the new state and the answers.
RULES = {
    ("starting", "service accept"): ("starting", [("setup", "12")]),
    ("starting", "proceeding"): ("looking", []),
    ("starting, accepted", "proceeding"): ("looking", []),
    ("looking", "alerting"): ("alerting", []),
    ("looking", "connect"): ("active", [("connect done",)]),
    ("alerting", "connect"): ("active", [("connect done",)]),
    ("idle", "setup"): ("ringing", [("alerting",)]),
    ("ringing, answered", "connect done"): ("active", []),
}


def call_in(way):
    call = PhoneCall()
    for step in WAYS[way]:
        if step == "dial":
            call.dial("12")
        elif step == "answer":
            call.answer()
        elif step == "hang":
            call.hang(True)
        else:
            call.take(step)
    return call


def plain(way):
    return way.split(",")[0]


class PhoneCallTest(ProgramTest):
    def assert_call(self, call, state, cause=0, said=(), heard=()):
        self.assertEqual((call.state, call.cause, call.said, call.heard), (state, cause, said, heard))

    def assert_not_now(self, what, function, *arguments):
        self.assert_raises_what(NotNow, what, function, *arguments)


class TakeTest(PhoneCallTest):
    def test_at_first(self):
        self.assert_call(PhoneCall(), "idle")
        self.assertIs(type(PhoneCall().cause), int)
        self.assertEqual({plain(way) for way in WAYS},
                         {"idle", "starting", "looking", "alerting", "ringing", "active", "clearing"})

    def test_the_example(self):
        call = PhoneCall()
        self.assertIsNone(call.dial("12"))
        self.assertEqual(call.take(("service accept",)), [("setup", "12")])

    def test_every_message_in_every_state(self):
        for way in WAYS:
            for message in MESSAGES:
                call = call_in(way)
                before = (call.state, call.cause, call.said, call.heard)
                self.assertEqual(call.state, plain(way))
                answers = call.take(message)
                self.assertIs(type(answers), list)
                key = (way, message[0])
                if key in RULES:
                    self.assertEqual((call.state, answers), RULES[key], key)
                    self.assertEqual(call.cause, before[1])
                elif message[0] == "disconnect" and plain(way) not in ("idle", "clearing"):
                    self.assertEqual((call.state, call.cause, answers), ("idle", 31, []), key)
                elif message[0] == "word" and plain(way) == "active":
                    self.assertEqual((call.state, call.heard, answers), ("active", ((7, 8),), []), key)
                else:
                    self.assertEqual((call.state, call.cause, call.said, call.heard), before, key)
                    self.assertEqual(answers, [], key)

    def test_a_second_service_accept(self):
        call = call_in("starting")
        self.assertEqual(call.take(ACCEPT), [("setup", "12")])
        self.assertEqual(call.take(ACCEPT), [])
        self.assertEqual(call.take(ACCEPT), [])
        self.assert_call(call, "starting")
        self.assertEqual(call.take(PROCEEDING), [])
        self.assert_call(call, "looking")

    def test_a_service_accept_for_each_dialling(self):
        call = call_in("starting, accepted")
        call.end(None)
        self.assertEqual(call.take(ACCEPT), [])
        call.dial("9876")
        self.assertEqual(call.take(ACCEPT), [("setup", "9876")])
        self.assertEqual(call.take(ACCEPT), [])

    def test_a_number_that_was_dialled_before_is_forgotten(self):
        call = call_in("starting")
        call.hang(False)
        self.assertEqual(call.take(ACCEPT), [])
        self.assertEqual(call.take(SETUP), [("alerting",)])
        self.assertEqual(call.take(ACCEPT), [])
        self.assert_call(call, "ringing", 16)
        call.end(None)
        call.dial("5")
        self.assertEqual(call.take(ACCEPT), [("setup", "5")])

    def test_the_whole_way_of_a_caller(self):
        call = PhoneCall()
        call.dial("12")
        wanted = [(ACCEPT, "starting", [("setup", "12")]), (PROCEEDING, "looking", []), (ALERTING, "alerting", []),
                  (CONNECT, "active", [("connect done",)]), (CONNECT, "active", []), (DONE, "active", [])]
        for message, state, answers in wanted:
            self.assertEqual(call.take(message), answers)
            self.assertEqual(call.state, state)

    def test_connect_in_looking(self):
        call = call_in("looking")
        self.assertEqual(call.take(CONNECT), [("connect done",)])
        self.assertEqual(call.take(ALERTING), [])
        self.assert_call(call, "active")

    def test_connect_done_before_and_behind_the_answer(self):
        call = call_in("ringing")
        self.assertEqual(call.take(DONE), [])
        self.assert_call(call, "ringing")
        self.assertEqual(call.answer(), ("connect",))
        self.assert_call(call, "ringing")
        self.assertEqual(call.take(DONE), [])
        self.assert_call(call, "active")

    def test_each_setup_must_be_answered_anew(self):
        call = call_in("ringing, answered")
        call.take(("disconnect", 16))
        call.take(SETUP)
        self.assertEqual(call.take(DONE), [])
        self.assert_call(call, "ringing", 16)
        self.assertEqual(call.answer(), ("connect",))
        self.assert_not_now("answer", call.answer)
        call.take(DONE)
        self.assert_call(call, "active", 16)

    def test_causes(self):
        for cause in (0, 1, 16, 17, 27, 127):
            for way in WAYS:
                call = call_in(way)
                before = call.cause
                self.assertEqual(call.take(("disconnect", cause)), [])
                if plain(way) in ("idle", "clearing"):
                    self.assert_call(call, plain(way), before)
                else:
                    self.assert_call(call, "idle", cause)

    def test_the_cause_stays_until_the_next_call_ends(self):
        call = call_in("looking")
        call.take(("disconnect", 19))
        call.dial("3")
        self.assert_call(call, "starting", 19)
        call.take(PROCEEDING)
        call.take(CONNECT)
        self.assert_call(call, "active", 19)
        call.take(("disconnect", 0))
        self.assert_call(call, "idle", 0)


class CommandTest(PhoneCallTest):
    def test_dial_in_every_state(self):
        for way in WAYS:
            call = call_in(way)
            before = (call.state, call.cause, call.said, call.heard)
            if way == "idle":
                self.assertIsNone(call.dial("7"))
                self.assertEqual(call.state, "starting")
            else:
                self.assert_not_now("dial", call.dial, "7")
                self.assertEqual((call.state, call.cause, call.said, call.heard), before)

    def test_a_refused_dialling_keeps_the_number(self):
        call = call_in("starting")
        self.assert_not_now("dial", call.dial, "777")
        self.assertEqual(call.take(ACCEPT), [("setup", "12")])
        self.assert_not_now("dial", call.dial, "777")
        self.assertEqual(call.take(ACCEPT), [])

    def test_answer_in_every_state(self):
        for way in WAYS:
            call = call_in(way)
            before = (call.state, call.cause)
            if way == "ringing":
                self.assertEqual(call.answer(), ("connect",))
            else:
                self.assert_not_now("answer", call.answer)
            self.assertEqual((call.state, call.cause), before)

    def test_answering_twice(self):
        call = call_in("ringing")
        call.answer()
        for _ in range(2):
            self.assert_not_now("answer", call.answer)
        self.assert_call(call, "ringing")
        call.take(DONE)
        self.assert_call(call, "active")

    def test_say_in_every_state(self):
        for way in WAYS:
            call = call_in(way)
            before = (call.state, call.cause)
            if plain(way) == "active":
                self.assertEqual(call.say((1, 2)), ("word", (1, 2)))
                self.assertEqual(call.say((3,)), ("word", (3,)))
                self.assertEqual(call.said, ((1, 2), (3,)))
            else:
                self.assert_not_now("say", call.say, (1, 2))
                self.assertEqual(call.said, ())
            self.assertEqual((call.state, call.cause), before)
            self.assertEqual(call.heard, ())

    def test_words(self):
        call = call_in("active")
        call.take(("word", (1,)))
        call.say((2,))
        call.take(("word", (3, 3)))
        call.take(("word", (1,)))
        call.say((2,))
        self.assert_call(call, "active", 0, ((2,), (2,)), ((1,), (3, 3), (1,)))
        call.hang(True)
        call.take(("word", (4,)))
        self.assert_call(call, "clearing", 16, ((2,), (2,)), ((1,), (3, 3), (1,)))
        call.end(None)
        self.assert_call(call, "idle", 16, ((2,), (2,)), ((1,), (3, 3), (1,)))

    def test_dialling_and_a_setup_forget_the_words(self):
        for begin in (lambda call: call.dial("1"), lambda call: call.take(SETUP)):
            call = call_in("active")
            call.take(("word", (1,)))
            call.say((2,))
            call.take(("disconnect", 16))
            self.assertEqual((call.said, call.heard), (((2,),), ((1,),)))
            begin(call)
            self.assertEqual((call.said, call.heard), ((), ()))

    def test_what_is_refused_forgets_no_words(self):
        call = call_in("active")
        call.say((2,))
        call.take(SETUP)
        self.assert_not_now("dial", call.dial, "1")
        self.assertEqual(call.said, ((2,),))

    def test_hang_in_every_state(self):
        for way in WAYS:
            call = call_in(way)
            before = call.cause
            if plain(way) in ("idle", "clearing"):
                self.assert_not_now("hang", call.hang, True)
                self.assert_not_now("hang", call.hang, False)
                self.assert_call(call, plain(way), before)
            else:
                self.assertEqual(call.hang(True), ("disconnect", 16))
                self.assert_call(call, "clearing", 16)

    def test_hang_in_starting_without_a_link(self):
        for way in ("starting", "starting, accepted"):
            call = call_in(way)
            self.assertIsNone(call.hang(False))
            self.assert_call(call, "idle", 16)
            self.assertIsNone(call.dial("1"))

    def test_nothing_counts_behind_hanging_up_but_the_end(self):
        for message in MESSAGES:
            call = call_in("clearing")
            self.assertEqual(call.take(message), [])
            self.assert_call(call, "clearing", 16)

    def test_the_end_of_the_link_in_every_state(self):
        for way in WAYS:
            for cause in (None, 0, 27, 47):
                call = call_in(way)
                before = call.cause
                self.assertIsNone(call.end(cause))
                changes = cause is not None and plain(way) not in ("idle", "clearing")
                self.assert_call(call, "idle", cause if changes else before)

    def test_the_end_of_the_link_keeps_an_earlier_cause(self):
        call = call_in("looking")
        call.take(("disconnect", 19))
        call.end(27)
        self.assert_call(call, "idle", 19)
        call.dial("1")
        call.end(None)
        self.assert_call(call, "idle", 19)
        call.take(SETUP)
        call.end(0)
        self.assert_call(call, "idle", 0)

    def test_lists_that_are_returned(self):
        call = call_in("starting")
        answers = call.take(ACCEPT)
        answers.append(("release",))
        self.assertEqual(call.take(("release",)), [])
        empty = call.take(("release",))
        empty.append(1)
        self.assertEqual(call.take(("release",)), [])

    def test_kinds_of_the_words(self):
        call = call_in("active")
        call.say((2,))
        call.take(("word", (3,)))
        for words in (call.said, call.heard):
            self.assertIs(type(words), tuple)
        kept = call.said
        call.say((4,))
        self.assertEqual(kept, ((2,),))


if __name__ == "__main__":
    unittest.main()
