"""The network's side of calls (points 102 to 112)."""

import random
import unittest

from mobileair.book import Book
from mobileair.home import Home
from mobileair.switch import Switch
from tests.helpers import ProgramTest
from tests.test_goals import by_hand as goal_by_hand

KINDS = ("always", "busy", "unanswered", "unreachable")
STATES = ("looking", "offered", "ringing", "answered", "active")


def office(*forwards, persons=6, away=()):
    """A switch and its register: persons with the numbers 10, 11 and so on, and (person, kind, number)."""
    home = Home()
    for person in range(persons):
        home.add(str(100000 + person), str(10 + person))
        home.set_area(person, None if person in away else 1)
    for person, kind, number in forwards:
        home.set_forward(person, kind, number)
    return Switch(home), home


def tell(person, *message):
    return ("tell", person, message)


def cleared(person, cause):
    return [("tell", person, ("disconnect", cause)), ("release", person)]


def bring(switch, state, caller=0, called=1, tick=100):
    """Bring a new call of two persons into a state; it is offered in this tick, and active in the third one."""
    at = STATES.index(state)
    switch.start(caller, str(10 + called), [caller], tick)
    if at > 0:
        switch.answered(called, tick)
    if at > 1:
        switch.alerting(called)
    if at > 2:
        switch.connect(called)
    if at > 3:
        switch.connected(caller, tick + 2)


def call_in(state, *forwards, **more):
    switch, _ = office(*forwards, **more)
    bring(switch, state)
    return switch


class SwitchTest(ProgramTest):
    def assert_calls(self, switch, *calls):
        self.assertEqual(switch.calls(), list(calls))

    def assert_no_call(self, switch, *persons):
        self.assert_calls(switch)
        for person in persons:
            self.assertIsNone(switch.call_of(person))
            self.assertIs(switch.is_leg(person), False)


class QuestionsTest(SwitchTest):
    def test_at_first(self):
        switch, _ = office()
        self.assertIs(type(switch.book), Book)
        self.assertEqual(switch.book.lines(), [])
        self.assert_no_call(switch, 0, 1, 5, 99, -1)

    def test_calls_and_sides_and_legs(self):
        for state in STATES:
            switch = call_in(state)
            self.assert_calls(switch, (0, 1, state))
            self.assertEqual([switch.call_of(person) for person in (0, 1, 2)], [(0, 1, state)] * 2 + [None])
            legs = [switch.is_leg(person) for person in (0, 1, 2)]
            self.assertEqual(legs, [True, state != "looking", False])
            self.assertTrue(all(type(leg) is bool for leg in legs))

    def test_several_calls_the_oldest_first(self):
        switch, _ = office()
        for state, caller, called in (("active", 3, 2), ("looking", 0, 5), ("ringing", 4, 1)):
            bring(switch, state, caller, called)
        self.assert_calls(switch, (3, 2, "active"), (0, 5, "looking"), (4, 1, "ringing"))
        self.assertEqual(switch.call_of(5), (0, 5, "looking"))
        switch.disconnect(3, 16, 120)
        self.assert_calls(switch, (0, 5, "looking"), (4, 1, "ringing"))

    def test_the_list_of_calls_may_be_changed(self):
        switch = call_in("active")
        switch.calls().clear()
        self.assert_calls(switch, (0, 1, "active"))
        actions = switch.word(0, (1,))
        actions.append(("release", 0))
        self.assertEqual(switch.word(0, (1,)), [tell(1, "word", (1,))])


class StartTest(SwitchTest):
    def test_a_new_call(self):
        switch, _ = office()
        self.assertEqual(switch.start(0, "11", [0], 5), [tell(0, "proceeding"), ("page", 1)])
        self.assert_calls(switch, (0, 1, "looking"))

    def test_a_person_that_is_a_side_of_a_call(self):
        for state in STATES:
            for person in (0, 1):
                switch = call_in(state)
                self.assertEqual(switch.start(person, "12", [0, 1], 110), cleared(person, 17))
                self.assert_calls(switch, (0, 1, state))

    def test_to_nobody(self):
        switch, _ = office()
        self.assertEqual(switch.start(0, "99", [0], 5), cleared(0, 1))
        self.assert_no_call(switch, 0)

    def test_to_itself(self):
        switch, _ = office()
        self.assertEqual(switch.start(0, "10", [0], 5), cleared(0, 17))
        self.assertEqual(switch.start(0, "10", [], 5), cleared(0, 17))
        self.assert_no_call(switch, 0)

    def test_to_a_person_without_an_area(self):
        switch, _ = office(away=(1,))
        self.assertEqual(switch.start(0, "11", [0], 5), cleared(0, 20))
        self.assert_no_call(switch, 0, 1)

    def test_to_a_person_with_a_link(self):
        switch, _ = office()
        linked = [0, 1]
        self.assertEqual(switch.start(0, "11", linked, 5), cleared(0, 17))
        self.assertEqual(linked, [0, 1])
        self.assertEqual(switch.start(0, "12", linked, 5), [tell(0, "proceeding"), ("page", 2)])

    def test_to_both_sides_of_a_call(self):
        for state in STATES:
            for number in ("10", "11"):
                switch = call_in(state)
                self.assertEqual(switch.start(2, number, [2], 110), cleared(2, 17))
                self.assert_calls(switch, (0, 1, state))

    def test_forwarding_of_each_kind(self):
        for kind, linked, away, paged in (("always", [0], (), 2), ("busy", [0, 1], (), 2), ("unreachable", [0], (1,), 2),
                                          ("unanswered", [0], (), 1), ("busy", [0], (), 1), ("unreachable", [0], (), 1)):
            switch, _ = office((1, kind, "12"), away=away)
            self.assertEqual(switch.start(0, "11", linked, 5), [tell(0, "proceeding"), ("page", paged)])
            self.assert_calls(switch, (0, paged, "looking"))

    def test_forwarding_without_a_goal(self):
        for number, linked, cause in (("99", [0], 1), ("10", [0], 17), ("12", [0, 2], 17), ("13", [0], 20), ("11", [0], 31)):
            switch, _ = office((1, "always", number), away=(3,))
            self.assertEqual(switch.start(0, "11", linked, 5), cleared(0, cause))
            self.assert_no_call(switch, 0, 1)

    def test_three_forwardings_in_a_row(self):
        switch, _ = office((1, "always", "12"), (2, "always", "13"), (3, "always", "14"))
        self.assertEqual(switch.start(0, "11", [0], 5), cleared(0, 31))
        self.assertEqual(switch.start(0, "12", [0], 5), [tell(0, "proceeding"), ("page", 4)])


class EventsTest(SwitchTest):
    """Each event of each person in each state of a call from 0 to 1."""

    def assert_event(self, state, event, person, wanted, after):
        switch = call_in(state)
        lines = switch.book.lines()
        found = event(switch, person)
        self.assertIs(type(found), list)
        self.assertEqual(found, wanted, (state, person))
        self.assert_calls(switch, *([] if after is None else [(0, 1, after)]))
        if after is not None and after == state:
            self.assertEqual(switch.book.lines(), lines)
        return switch

    def assert_fits_only(self, event, fits):
        """What fits: actions and the new state by (state, person); in all other cases nothing changes."""
        for state in STATES:
            for person in (0, 1, 2, 77):
                wanted, after = fits.get((state, person), ([], state))
                self.assert_event(state, event, person, wanted, after)

    def test_answered_page(self):
        self.assert_fits_only(lambda switch, person: switch.answered(person, 104), {
            ("looking", 1): ([tell(1, "setup", "10")], "offered"),
        })

    def test_alerting(self):
        self.assert_fits_only(lambda switch, person: switch.alerting(person), {
            ("offered", 1): ([tell(0, "alerting")], "ringing"),
        })

    def test_connect(self):
        actions = [tell(1, "connect done"), tell(0, "connect")]
        self.assert_fits_only(lambda switch, person: switch.connect(person), {
            ("offered", 1): (actions, "answered"), ("ringing", 1): (actions, "answered"),
        })

    def test_connected(self):
        self.assert_fits_only(lambda switch, person: switch.connected(person, 104), {("answered", 0): ([], "active")})
        switch = call_in("answered")
        self.assertEqual(switch.book.lines(), [])
        switch.connected(0, 104)
        self.assertEqual(switch.book.lines(), [(0, 1, 104, None, None)])
        switch.connected(0, 105)
        self.assertEqual(switch.book.lines(), [(0, 1, 104, None, None)])

    def test_word(self):
        fits = {}
        for state in ("answered", "active"):
            fits[(state, 0)] = ([tell(1, "word", (1, 2))], state)
            fits[(state, 1)] = ([tell(0, "word", (1, 2))], state)
        self.assert_fits_only(lambda switch, person: switch.word(person, (1, 2)), fits)

    def test_failed_page(self):
        self.assert_fits_only(lambda switch, person: switch.failed(person, [0], 104), {
            ("looking", 1): (cleared(0, 18), None),
        })

    def test_disconnect(self):
        for cause in (0, 16, 127):
            fits = {(state, 2): ([("release", 2)], state) for state in STATES}
            fits.update({(state, 77): ([("release", 77)], state) for state in STATES})
            fits[("looking", 0)] = ([("release", 0), ("unpage", 1)], None)
            fits[("looking", 1)] = ([("release", 1)], "looking")
            for state in STATES[1:]:
                fits[(state, 0)] = ([("release", 0), *cleared(1, cause)], None)
                fits[(state, 1)] = ([("release", 1), *cleared(0, cause)], None)
            self.assert_fits_only(lambda switch, person: switch.disconnect(person, cause, 104), fits)

    def test_lost(self):
        fits = {("looking", 0): ([("unpage", 1)], None)}
        for state in STATES[1:]:
            fits[(state, 0)] = (cleared(1, 27), None)
            fits[(state, 1)] = (cleared(0, 27), None)
        self.assert_fits_only(lambda switch, person: switch.lost(person, 104), fits)

    def test_the_line_of_the_book(self):
        for person in (0, 1):
            for end, cause in ((lambda switch: switch.disconnect(person, 31, 117), 31),
                               (lambda switch: switch.lost(person, 117), 27)):
                for state in STATES[:-1]:
                    switch = call_in(state)
                    end(switch)
                    self.assertEqual(switch.book.lines(), [])
                switch = call_in("active")
                self.assertEqual(switch.book.lines(), [(0, 1, 102, None, None)])
                end(switch)
                self.assertEqual(switch.book.lines(), [(0, 1, 102, 117, cause)])
                self.assertEqual([switch.book.units(0), switch.book.units(1)], [2, 0])

    def test_lines_of_several_calls(self):
        switch, _ = office()
        bring(switch, "active", 0, 1, 10)
        bring(switch, "active", 2, 3, 11)
        bring(switch, "active", 4, 5, 12)
        switch.disconnect(3, 16, 20)
        switch.lost(0, 21)
        bring(switch, "active", 1, 0, 30)
        switch.disconnect(1, 17, 33)
        self.assertEqual(switch.book.lines(), [
            (0, 1, 12, 21, 27), (2, 3, 13, 20, 16), (4, 5, 14, None, None), (1, 0, 32, 33, 17),
        ])
        self.assert_calls(switch, (4, 5, "active"))

    def test_the_whole_way_of_a_call(self):
        switch, _ = office()
        self.assertEqual(switch.start(3, "12", [3], 1), [tell(3, "proceeding"), ("page", 2)])
        self.assertEqual(switch.answered(2, 4), [tell(2, "setup", "13")])
        self.assertEqual(switch.alerting(2), [tell(3, "alerting")])
        self.assertEqual(switch.connect(2), [tell(2, "connect done"), tell(3, "connect")])
        self.assertEqual(switch.word(2, (9,)), [tell(3, "word", (9,))])
        self.assertEqual(switch.connected(3, 20), [])
        self.assertEqual(switch.word(3, (8,)), [tell(2, "word", (8,))])
        self.assertEqual(switch.disconnect(2, 16, 40), [("release", 2), *cleared(3, 16)])
        self.assert_no_call(switch, 2, 3)
        self.assertEqual(switch.book.lines(), [(3, 2, 20, 40, 16)])
        self.assertEqual(switch.disconnect(3, 16, 41), [("release", 3)])
        self.assertEqual(switch.lost(3, 41), [])

    def test_events_of_one_call_leave_another_as_it_is(self):
        switch, _ = office()
        bring(switch, "ringing", 0, 1)
        bring(switch, "looking", 2, 3)
        self.assertEqual(switch.answered(3, 101), [tell(3, "setup", "12")])
        self.assertEqual(switch.connect(1), [tell(1, "connect done"), tell(0, "connect")])
        self.assert_calls(switch, (0, 1, "answered"), (2, 3, "offered"))
        self.assertEqual(switch.lost(2, 101), cleared(3, 27))
        self.assert_calls(switch, (0, 1, "answered"))


class NotReachedTest(SwitchTest):
    def test_a_failed_page_without_a_number(self):
        for forwards in ((), ((1, "unanswered", "12"), (1, "busy", "12"))):
            switch = call_in("looking", *forwards)
            self.assertEqual(switch.failed(1, [0], 104), cleared(0, 18))
            self.assert_no_call(switch, 0, 1)

    def test_a_failed_page_with_a_number(self):
        switch = call_in("looking", (1, "unreachable", "12"))
        linked = [0]
        self.assertEqual(switch.failed(1, linked, 104), [("page", 2)])
        self.assertEqual(linked, [0])
        self.assert_calls(switch, (0, 2, "looking"))
        self.assertIsNone(switch.call_of(1))
        self.assertEqual(switch.answered(1, 105), [])
        self.assertEqual(switch.failed(1, [0], 105), [])
        self.assertEqual(switch.answered(2, 105), [tell(2, "setup", "10")])

    def test_a_call_keeps_its_place_when_it_is_forwarded(self):
        switch, _ = office((1, "unreachable", "14"))
        bring(switch, "looking", 0, 1)
        bring(switch, "looking", 2, 3)
        switch.failed(1, [0, 2], 104)
        self.assert_calls(switch, (0, 4, "looking"), (2, 3, "looking"))

    def test_forwarding_that_finds_no_goal(self):
        for number, linked, cause in (("99", [0], 1), ("10", [0], 17), ("12", [0, 2], 17), ("13", [0], 20),
                                      ("14", [0], 17), ("15", [0], 31)):
            switch, _ = office((1, "unreachable", number), (5, "always", "17"), (7, "always", "17"), persons=8, away=(3,))
            bring(switch, "looking")
            bring(switch, "active", 4, 6)
            self.assertEqual(switch.failed(1, linked, 104), cleared(0, cause), number)
            self.assert_calls(switch, (4, 6, "active"))

    def test_forwarding_to_the_person_that_was_not_reached(self):
        switch = call_in("looking", (1, "unreachable", "11"))
        # It is no side any more, so it is busy only by a link.
        self.assertEqual(switch.failed(1, [0], 104), [("page", 1)])
        self.assert_calls(switch, (0, 1, "looking"))
        self.assertEqual(switch.failed(1, [0, 1], 113), cleared(0, 17))
        self.assert_no_call(switch, 0, 1)

    def test_forwarding_by_way_of_the_person_that_was_not_reached(self):
        switch = call_in("looking", (1, "unreachable", "12"), (2, "always", "11"))
        self.assertEqual(switch.failed(1, [0], 104), [("page", 1)])
        self.assertEqual(switch.failed(1, [0], 120), cleared(0, 31))

    def test_the_person_that_was_not_reached_may_call_and_be_called(self):
        switch = call_in("looking", (1, "unreachable", "12"))
        switch.failed(1, [0], 104)
        self.assertEqual(switch.start(3, "11", [0, 3], 104), [tell(3, "proceeding"), ("page", 1)])
        switch.disconnect(3, 16, 104)
        self.assertEqual(switch.start(1, "13", [0, 1], 104), [tell(1, "proceeding"), ("page", 3)])

    def test_up_to_the_third_forwarding(self):
        rows = [(person, "unreachable", str(11 + person)) for person in range(1, 5)]
        switch = call_in("looking", *rows)
        self.assertEqual(switch.failed(1, [0], 104), [("page", 2)])
        self.assertEqual(switch.failed(2, [0], 113), [("page", 3)])
        self.assertEqual(switch.failed(3, [0], 122), cleared(0, 31))
        self.assert_no_call(switch, 0, 3)

    def test_the_cause_counts_ahead_of_the_hops(self):
        switch = call_in("looking", (1, "unreachable", "12"), (2, "unreachable", "13"))
        switch.failed(1, [0], 104)
        switch.failed(2, [0], 113)
        self.assertEqual(switch.failed(3, [0], 122), cleared(0, 18))

    def test_hops_from_the_start_count(self):
        switch, _ = office((1, "always", "12"), (2, "unreachable", "13"), (3, "unreachable", "14"))
        switch.start(0, "11", [0], 100)
        self.assertEqual(switch.failed(2, [0], 109), [("page", 3)])
        self.assertEqual(switch.failed(3, [0], 118), cleared(0, 31))

    def test_hops_that_are_found_with_the_goal_count(self):
        switch, _ = office((1, "unreachable", "12"), (2, "always", "13"), (3, "unreachable", "14"))
        switch.start(0, "11", [0], 100)
        self.assertEqual(switch.failed(1, [0], 109), [("page", 3)])
        self.assertEqual(switch.failed(3, [0], 118), cleared(0, 31))

    def test_two_hops_behind_one_find_no_goal(self):
        switch, _ = office((1, "unreachable", "12"), (2, "always", "13"), (3, "always", "14"))
        switch.start(0, "11", [0], 100)
        self.assertEqual(switch.failed(1, [0], 109), cleared(0, 31))

    def test_the_caller_counts_as_busy(self):
        switch = call_in("looking", (1, "unreachable", "10"), (0, "busy", "13"))
        self.assertEqual(switch.failed(1, [], 109), [("page", 3)])


class StepTest(SwitchTest):
    def test_nothing_to_do(self):
        switch, _ = office()
        self.assertEqual(switch.step([], 0), [])
        for state in ("looking", "answered", "active"):
            switch = call_in(state)
            self.assertEqual(switch.step([0, 1], 400), [])
            self.assert_calls(switch, (0, 1, state))

    def test_a_call_that_rings_15_and_16_ticks(self):
        for state in ("offered", "ringing"):
            switch = call_in(state)
            self.assertEqual(switch.step([0, 1], 115), [])
            self.assert_calls(switch, (0, 1, state))
            self.assertEqual(switch.step([0, 1], 116), cleared(0, 19) + cleared(1, 19))
            self.assert_no_call(switch, 0, 1)
            self.assertEqual(switch.book.lines(), [])
            switch = call_in(state)
            self.assertEqual(switch.step([0, 1], 300), cleared(0, 19) + cleared(1, 19))

    def test_the_tick_counts_in_which_the_call_was_offered(self):
        switch, _ = office()
        switch.start(0, "11", [0], 10)
        switch.answered(1, 20)
        switch.alerting(1)
        self.assertEqual(switch.step([0, 1], 35), [])
        self.assertEqual(switch.step([0, 1], 36), cleared(0, 19) + cleared(1, 19))

    def test_with_a_number_for_unanswered(self):
        for state in ("offered", "ringing"):
            switch = call_in(state, (1, "unanswered", "12"), (1, "unreachable", "13"), (1, "busy", "14"))
            linked = [0, 1]
            self.assertEqual(switch.step(linked, 116), [("page", 2), *cleared(1, 19)])
            self.assertEqual(linked, [0, 1])
            self.assert_calls(switch, (0, 2, "looking"))
            self.assertEqual(switch.step([0, 1], 117), [])
            self.assertEqual(switch.disconnect(1, 16, 118), [("release", 1)])
            self.assertEqual(switch.answered(2, 118), [tell(2, "setup", "10")])
            self.assertEqual(switch.step([0, 2], 133), [])
            self.assertEqual(switch.step([0, 2], 134), cleared(0, 19) + cleared(2, 19))

    def test_forwarding_that_finds_no_goal(self):
        for number, cause in (("99", 1), ("10", 17), ("11", 17), ("13", 20)):
            switch = call_in("ringing", (1, "unanswered", number), away=(3,))
            self.assertEqual(switch.step([0, 1], 116), cleared(0, cause) + cleared(1, 19))
            self.assert_no_call(switch, 0, 1)

    def test_the_person_is_busy_only_by_its_link(self):
        switch = call_in("ringing", (1, "unanswered", "11"))
        self.assertEqual(switch.step([0], 116), [("page", 1), *cleared(1, 19)])
        self.assert_calls(switch, (0, 1, "looking"))

    def test_the_third_forwarding(self):
        switch, _ = office((1, "always", "12"), (2, "unreachable", "13"), (3, "unanswered", "14"))
        switch.start(0, "11", [0], 100)
        switch.failed(2, [0], 109)
        switch.answered(3, 110)
        self.assertEqual(switch.step([0, 3], 126), cleared(0, 31) + cleared(3, 19))
        self.assert_no_call(switch, 0, 3)

    def test_several_calls_in_one_step(self):
        switch, _ = office((1, "unanswered", "16"), (5, "unanswered", "16"), persons=8)
        bring(switch, "ringing", 0, 1, 100)
        bring(switch, "offered", 2, 3, 100)
        bring(switch, "ringing", 4, 5, 100)
        wanted = [("page", 6), *cleared(1, 19), *cleared(2, 19), *cleared(3, 19), *cleared(4, 17), *cleared(5, 19)]
        self.assertEqual(switch.step([0, 1, 2, 3, 4, 5], 116), wanted)
        self.assert_calls(switch, (0, 6, "looking"))

    def test_only_the_calls_that_are_due(self):
        switch, _ = office()
        bring(switch, "ringing", 0, 1, 100)
        bring(switch, "ringing", 2, 3, 105)
        self.assertEqual(switch.step([0, 1, 2, 3], 118), cleared(0, 19) + cleared(1, 19))
        self.assert_calls(switch, (2, 3, "ringing"))
        self.assertEqual(switch.step([2, 3], 121), cleared(2, 19) + cleared(3, 19))

    def test_a_person_that_was_not_reached_is_free_for_the_next_call_of_the_step(self):
        switch, _ = office((3, "unanswered", "11"))
        bring(switch, "ringing", 0, 1, 100)
        bring(switch, "ringing", 2, 3, 100)
        self.assertEqual(switch.step([], 116), [*cleared(0, 19), *cleared(1, 19), ("page", 1), *cleared(3, 19)])
        self.assert_calls(switch, (2, 1, "looking"))


class PlainSwitch:
    """The points once more, with calls as plain dicts, to compare with."""

    def __init__(self, home):
        self.home, self.calls, self.lines = home, [], []

    def side(self, person):
        found = [call for call in self.calls if person in (call["caller"], call["called"])]
        assert len(found) <= 1
        return found[0] if found else None

    def busy(self, linked):
        return list(linked) + [call[side] for call in self.calls for side in ("caller", "called")]

    def called(self, person, *states):
        call = self.side(person)
        return call if call and call["called"] == person and call["state"] in states else None

    def leg(self, person):
        call = self.side(person)
        return call if call and (call["caller"] == person or call["state"] != "looking") else None

    def start(self, person, number, linked, tick):
        if self.side(person):
            return cleared(person, 17)
        goal, cause, hops = goal_by_hand(self.home, number, person, self.busy(linked), 0)
        if goal is None:
            return cleared(person, cause)
        self.calls.append({"caller": person, "called": goal, "state": "looking", "hops": hops})
        return [tell(person, "proceeding"), ("page", goal)]

    def answered(self, person, tick):
        call = self.called(person, "looking")
        if not call:
            return []
        call.update(state="offered", offered=tick)
        return [tell(person, "setup", self.home.number(call["caller"]))]

    def alerting(self, person):
        call = self.called(person, "offered")
        if not call:
            return []
        call["state"] = "ringing"
        return [tell(call["caller"], "alerting")]

    def connect(self, person):
        call = self.called(person, "offered", "ringing")
        if not call:
            return []
        call["state"] = "answered"
        return [tell(person, "connect done"), tell(call["caller"], "connect")]

    def connected(self, person, tick):
        call = self.side(person)
        if call and call["caller"] == person and call["state"] == "answered":
            call.update(state="active", line=len(self.lines))
            self.lines.append((person, call["called"], tick, None, None))
        return []

    def word(self, person, octets):
        call = self.leg(person)
        if not call or call["state"] not in ("answered", "active"):
            return []
        return [tell(call["called"] if call["caller"] == person else call["caller"], "word", octets)]

    def over(self, person, cause, tick):
        call = self.leg(person)
        if not call:
            return []
        self.calls.remove(call)
        if call["state"] == "active":
            self.lines[call["line"]] = self.lines[call["line"]][:3] + (tick, cause)
        if call["caller"] != person:
            return cleared(call["caller"], cause)
        return [("unpage", call["called"])] if call["state"] == "looking" else cleared(call["called"], cause)

    def disconnect(self, person, cause, tick):
        return [("release", person)] + self.over(person, cause, tick)

    def lost(self, person, tick):
        return self.over(person, 27, tick)

    def not_reached(self, call, kind, cause, linked):
        number = self.home.forward(call["called"], kind)
        at = self.calls.index(call)
        del self.calls[at]
        if number is None:
            return cleared(call["caller"], cause)
        if call["hops"] >= 2:
            return cleared(call["caller"], 31)
        busy = self.busy(linked) + [call["caller"]]
        goal, found, hops = goal_by_hand(self.home, number, call["caller"], busy, call["hops"] + 1)
        if goal is None:
            return cleared(call["caller"], found)
        self.calls.insert(at, {"caller": call["caller"], "called": goal, "state": "looking", "hops": hops})
        return [("page", goal)]

    def failed(self, person, linked, tick):
        call = self.called(person, "looking")
        return self.not_reached(call, "unreachable", 18, linked) if call else []

    def step(self, linked, tick):
        actions = []
        for call in list(self.calls):
            if call["state"] in ("offered", "ringing") and tick >= call["offered"] + 16:
                actions += self.not_reached(call, "unanswered", 19, linked) + cleared(call["called"], 19)
        return actions


class ManyEventsTest(SwitchTest):
    def test_against_the_points_once_more(self):
        for seed in range(120):
            chance = random.Random(seed)
            switch, home = office(away=(chance.randrange(6),))
            self.assert_like_plain(chance, home, switch, PlainSwitch(home))

    def assert_like_plain(self, chance, home, switch, plain):
        tick = 0
        for _ in range(250):
            tick += chance.choice((0, 0, 1, 1, 2, 6))
            if chance.random() < 0.08:
                home.set_forward(chance.randrange(6), chance.choice(KINDS), chance.choice(("10", "11", "12", "13", None)))
            name, arguments = self.some_event(chance, tick)
            found = getattr(switch, name)(*arguments)
            self.assertEqual(found, getattr(plain, name)(*arguments), (name, arguments))
            calls = [(call["caller"], call["called"], call["state"]) for call in plain.calls]
            self.assert_calls(switch, *calls)
            self.assertEqual(switch.book.lines(), plain.lines)
            for person in range(6):
                self.assertEqual(switch.is_leg(person), plain.leg(person) is not None)
                of = [call for call in calls if person in call[:2]]
                self.assertEqual(switch.call_of(person), of[0] if of else None)

    def some_event(self, chance, tick):
        person = chance.randrange(6)
        linked = sorted(chance.sample(range(6), chance.randrange(3)))
        events = [
            ("start", (person, chance.choice(("10", "11", "12", "13", "14", "15", "99")), linked, tick)),
            ("start", (person, chance.choice(("10", "11", "12", "13", "14", "15")), [], tick)),
            ("answered", (person, tick)), ("answered", (person, tick)), ("alerting", (person,)), ("connect", (person,)),
            ("connected", (person, tick)), ("connected", (person, tick)), ("word", (person, (1, 2, 3))),
            ("failed", (person, linked, tick)), ("step", (linked, tick)), ("step", (linked, tick)),
        ]
        if chance.random() < 0.12:
            return chance.choice((("disconnect", (person, chance.randrange(128), tick)), ("lost", (person, tick))))
        return chance.choice(events)


if __name__ == "__main__":
    unittest.main()
