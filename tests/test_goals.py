"""Where a call goes (points 99 and 100)."""

import itertools
import random
import unittest

from mobileair.goals import find_goal
from mobileair.home import Home
from tests.helpers import ProgramTest

KINDS = ("always", "busy", "unanswered", "unreachable")


def home_of(*persons):
    """A register of persons with the numbers 10, 11 and so on; each one is its area and its forwarding."""
    home = Home()
    for at, (area, forwards) in enumerate(persons):
        home.add(str(100000 + at), str(10 + at))
        home.set_area(at, area)
        for kind, number in forwards.items():
            home.set_forward(at, kind, number)
    return home


def by_hand(home, number, caller, busy, hops):
    person = home.with_number(number)
    if person is None:
        return (None, 1, hops)
    if home.forward(person, "always"):
        kind, cause = "always", 0
    elif person == caller or person in busy:
        kind, cause = "busy", 17
    elif home.area(person) is None:
        kind, cause = "unreachable", 20
    else:
        return (person, 0, hops)
    target = home.forward(person, kind)
    if target is None:
        return (None, cause, hops)
    return (None, 31, hops) if hops >= 2 else by_hand(home, target, caller, busy, hops + 1)


class RulesTest(ProgramTest):
    def test_nobody(self):
        home = home_of((1, {}), (1, {}))
        for number in ("12", "1", "", "100000"):
            for hops in (0, 1, 2, 5):
                self.assertEqual(find_goal(home, number, 0, [0], hops), (None, 1, hops))

    def test_the_person_itself(self):
        home = home_of((1, {}), (0, {}))
        for hops in (0, 1, 2, 5):
            self.assertEqual(find_goal(home, "11", 0, [0], hops), (1, 0, hops))
            self.assertEqual(find_goal(home, "10", 1, [], hops), (0, 0, hops))

    def test_always(self):
        home = home_of((1, {}), (1, {"always": "12"}), (1, {}))
        self.assertEqual(find_goal(home, "11", 0, [0], 0), (2, 0, 1))
        self.assertEqual(find_goal(home, "11", 0, [0], 1), (2, 0, 2))
        self.assertEqual(find_goal(home, "11", 0, [0], 2), (None, 31, 2))
        self.assertEqual(find_goal(home, "11", 0, [0], 3), (None, 31, 3))

    def test_busy(self):
        home = home_of((1, {}), (1, {}), (1, {"busy": "13"}), (1, {}))
        self.assertEqual(find_goal(home, "11", 0, [0, 1], 0), (None, 17, 0))
        self.assertEqual(find_goal(home, "10", 0, [], 0), (None, 17, 0))
        self.assertEqual(find_goal(home, "10", 0, [0], 2), (None, 17, 2))
        self.assertEqual(find_goal(home, "12", 0, [0, 2], 0), (3, 0, 1))
        self.assertEqual(find_goal(home, "12", 2, [], 1), (3, 0, 2))
        self.assertEqual(find_goal(home, "12", 0, [0, 2], 2), (None, 31, 2))
        self.assertEqual(find_goal(home, "12", 0, [0], 2), (2, 0, 2))

    def test_unreachable(self):
        home = home_of((1, {}), (None, {}), (None, {"unreachable": "13"}), (1, {}))
        self.assertEqual(find_goal(home, "11", 0, [0], 0), (None, 20, 0))
        self.assertEqual(find_goal(home, "11", 0, [0], 2), (None, 20, 2))
        self.assertEqual(find_goal(home, "12", 0, [0], 0), (3, 0, 1))
        self.assertEqual(find_goal(home, "12", 0, [0], 2), (None, 31, 2))

    def test_area_0_is_an_area(self):
        self.assertEqual(find_goal(home_of((0, {}), (0, {})), "11", 0, [], 0), (1, 0, 0))

    def test_unanswered_is_no_rule_here(self):
        home = home_of((1, {}), (1, {"unanswered": "12"}), (1, {}))
        self.assertEqual(find_goal(home, "11", 0, [0], 0), (1, 0, 0))
        self.assertEqual(find_goal(home, "11", 0, [0, 1], 0), (None, 17, 0))

    def test_two_rules_at_once(self):
        every = {"always": "11", "busy": "12", "unreachable": "13"}
        free = [(1, {}), (1, {}), (1, {})]
        # Always comes before busy and unreachable, busy before unreachable.
        for area, forwards, busy, wanted in (
            (None, every, [0], (1, 0, 1)), (1, every, [0], (1, 0, 1)), (None, every, [], (1, 0, 1)),
            (None, {"busy": "12", "unreachable": "13"}, [0], (2, 0, 1)),
            (None, {"unreachable": "13"}, [0], (None, 17, 0)),
            (None, {"busy": "12"}, [], (None, 20, 0)),
            (None, {"busy": "12", "unreachable": "13"}, [], (3, 0, 1)),
            (1, {"busy": "12", "unreachable": "13"}, [], (0, 0, 0)),
            (None, {"always": "99", "busy": "12"}, [0], (None, 1, 1)),
        ):
            self.assertEqual(find_goal(home_of((area, forwards), *free), "10", 3 if wanted[0] != 3 else 1, busy, 0), wanted)

    def test_forwarding_to_nobody(self):
        home = home_of((1, {}), (1, {"always": "99", "busy": "98"}))
        self.assertEqual(find_goal(home, "11", 0, [0], 0), (None, 1, 1))
        self.assertEqual(find_goal(home, "11", 0, [0], 1), (None, 1, 2))
        self.assertEqual(find_goal(home, "11", 0, [0], 2), (None, 31, 2))

    def test_forwarding_to_the_caller(self):
        home = home_of((1, {}), (1, {"always": "10"}))
        self.assertEqual(find_goal(home, "11", 0, [0], 0), (None, 17, 1))
        self.assertEqual(find_goal(home, "11", 0, [], 1), (None, 17, 2))
        home.set_forward(0, "busy", "12")
        self.assertEqual(find_goal(home, "11", 0, [0], 0), (None, 1, 2))
        self.assertEqual(find_goal(home, "11", 0, [0], 1), (None, 31, 2))


class RowsTest(ProgramTest):
    def test_one_two_and_three_forwardings_in_a_row(self):
        home = home_of((1, {}), (1, {}), (1, {"always": "11"}), (1, {"busy": "12"}), (None, {"unreachable": "13"}))
        self.assertEqual(find_goal(home, "11", 0, [0, 3], 0), (1, 0, 0))
        self.assertEqual(find_goal(home, "12", 0, [0, 3], 0), (1, 0, 1))
        self.assertEqual(find_goal(home, "13", 0, [0, 3], 0), (1, 0, 2))
        self.assertEqual(find_goal(home, "14", 0, [0, 3], 0), (None, 31, 2))
        self.assertEqual(find_goal(home, "14", 0, [0], 0), (3, 0, 1))
        self.assertEqual(find_goal(home, "13", 0, [0, 3], 1), (None, 31, 2))
        self.assertEqual(find_goal(home, "12", 0, [0, 3], 1), (1, 0, 2))

    def test_rings(self):
        home = home_of((1, {}), (1, {"always": "11"}), (1, {"always": "13"}), (1, {"always": "12"}))
        for number in ("11", "12", "13"):
            self.assertEqual(find_goal(home, number, 0, [0], 0), (None, 31, 2))
            self.assertEqual(find_goal(home, number, 0, [0], 1), (None, 31, 2))
            self.assertEqual(find_goal(home, number, 0, [0], 2), (None, 31, 2))
            self.assertEqual(find_goal(home, number, 0, [0], 7), (None, 31, 7))
        home = home_of((1, {}), (1, {"busy": "11"}))
        self.assertEqual(find_goal(home, "11", 0, [1], 0), (None, 31, 2))
        self.assertEqual(find_goal(home, "11", 1, [], 0), (None, 31, 2))

    def test_the_cause_of_the_last_rule(self):
        home = home_of((1, {}), (1, {"always": "12"}), (1, {}), (1, {"always": "14"}), (None, {}))
        self.assertEqual(find_goal(home, "11", 0, [0, 2], 0), (None, 17, 1))
        self.assertEqual(find_goal(home, "13", 0, [0, 2], 0), (None, 20, 1))

    def test_busy_lists(self):
        home = home_of((1, {}), (1, {}), (1, {}))
        for busy in ([], [0], [0, 2], [2, 0, 2]):
            self.assertEqual(find_goal(home, "11", 0, busy, 0), (1, 0, 0))
        for busy in ([0, 1, 2], [1], [2, 1, 0, 1]):
            given = list(busy)
            self.assertEqual(find_goal(home, "11", 0, given, 0), (None, 17, 0))
            self.assertEqual(given, busy)

    def test_nothing_is_changed(self):
        home = home_of((1, {}), (1, {"always": "12"}), (None, {"unreachable": "13"}), (2, {}))
        rows = [(home.area(at), [home.forward(at, kind) for kind in KINDS]) for at in range(4)]
        self.assertEqual(find_goal(home, "11", 0, [0], 0), (3, 0, 2))
        self.assertEqual([(home.area(at), [home.forward(at, kind) for kind in KINDS]) for at in range(4)], rows)

    def test_all_of_many_registers(self):
        chance = random.Random(99)
        numbers = ["10", "11", "12", "13", "99", None, None]
        for _ in range(400):
            home = home_of(*[(chance.choice((None, 0, 1)), {kind: chance.choice(numbers) for kind in KINDS})
                             for _ in range(4)])
            busy = [person for person in range(4) if chance.random() < 0.4]
            for number, caller, hops in itertools.product(("10", "11", "12", "13", "99"), (0, 2), (0, 1, 2, 3)):
                self.assertEqual(find_goal(home, number, caller, busy, hops), by_hand(home, number, caller, busy, hops))


if __name__ == "__main__":
    unittest.main()
