"""The home register (point 79)."""

import unittest

from mobileair.errors import NotNow
from mobileair.home import Home
from tests.helpers import ProgramTest

KINDS = ("always", "busy", "unanswered", "unreachable")


def three():
    home = Home()
    for digits, number in (("123456", "12"), ("234567", "34"), ("345678", "5")):
        home.add(digits, number)
    return home


def all_of(home, persons):
    return [(home.digits(person), home.number(person), home.area(person), *[home.forward(person, kind) for kind in KINDS])
            for person in range(persons)]


class HomeTest(ProgramTest):
    def test_persons_are_numbered_in_order(self):
        home = Home()
        for person in range(10):
            self.assertEqual(home.add(str(100000 + person), str(person)), person)
            self.assertEqual(home.digits(person), str(100000 + person))
            self.assertEqual(home.number(person), str(person))

    def test_the_same_digits_or_the_same_number(self):
        home = three()
        before = all_of(home, 3)
        self.assert_raises_what(NotNow, "digits", home.add, "234567", "99")
        self.assert_raises_what(NotNow, "number", home.add, "999999", "34")
        self.assert_raises_what(NotNow, "digits", home.add, "123456", "5")
        self.assert_raises_what(NotNow, "digits", home.add, "345678", "5")
        self.assertEqual(all_of(home, 3), before)
        self.assert_no_such("person", 3, home.digits, 3)
        self.assertIsNone(home.with_number("99"))
        self.assertIsNone(home.with_digits("999999"))
        self.assertEqual(home.add("999999", "99"), 3)

    def test_digits_and_numbers_are_apart(self):
        home = Home()
        self.assertEqual(home.add("123456", "654321"), 0)
        self.assertEqual(home.add("654321", "123456"), 1)
        self.assertEqual([home.with_digits("123456"), home.with_number("123456")], [0, 1])

    def test_with_digits_and_with_number(self):
        home = three()
        self.assertEqual([home.with_digits(digits) for digits in ("123456", "234567", "345678")], [0, 1, 2])
        self.assertEqual([home.with_number(number) for number in ("12", "34", "5")], [0, 1, 2])
        for text in ("", "1", "012", "12345", "1234567", "55"):
            self.assertIsNone(home.with_digits(text))
            self.assertIsNone(home.with_number(text))
        self.assertIsNone(Home().with_digits("123456"))
        self.assertIsNone(Home().with_number("12"))

    def test_areas(self):
        home = three()
        self.assertEqual([home.area(person) for person in range(3)], [None, None, None])
        self.assertIsNone(home.set_area(1, 0))
        self.assertEqual([home.area(person) for person in range(3)], [None, 0, None])
        self.assertIsNone(home.set_area(1, 3))
        self.assertIsNone(home.set_area(2, 2))
        self.assertEqual([home.area(person) for person in range(3)], [None, 3, 2])
        home.set_area(1, None)
        self.assertIsNone(home.area(1))

    def test_forwarding(self):
        home = three()
        for kind in KINDS:
            self.assertIsNone(home.forward(1, kind))
            self.assertIsNone(home.set_forward(1, kind, None))
            self.assertIsNone(home.set_forward(1, kind, "5"))
            self.assertEqual(home.forward(1, kind), "5")
            self.assertEqual(home.set_forward(1, kind, "777"), "5")
            self.assertEqual(home.forward(1, kind), "777")
            self.assertEqual([home.forward(0, kind), home.forward(2, kind)], [None, None])
            self.assertEqual([home.forward(1, other) for other in KINDS if other != kind], [None] * 3)
            self.assertEqual(home.set_forward(1, kind, None), "777")
            self.assertIsNone(home.forward(1, kind))

    def test_forwarding_of_all_kinds_beside_each_other(self):
        home = three()
        for at, kind in enumerate(KINDS):
            home.set_forward(0, kind, str(at))
            home.set_forward(2, kind, str(10 + at))
        self.assertEqual([home.forward(0, kind) for kind in KINDS], ["0", "1", "2", "3"])
        self.assertEqual([home.forward(1, kind) for kind in KINDS], [None] * 4)
        self.assertEqual([home.forward(2, kind) for kind in KINDS], ["10", "11", "12", "13"])

    def test_no_such_person(self):
        home = three()
        before = all_of(home, 3)
        for person in (-1, 3, 100):
            for method in (home.digits, home.number, home.area):
                self.assert_no_such("person", person, method, person)
            self.assert_no_such("person", person, home.set_area, person, 1)
            for kind in KINDS:
                self.assert_no_such("person", person, home.forward, person, kind)
                self.assert_no_such("person", person, home.set_forward, person, kind, "1")
        self.assertEqual(all_of(home, 3), before)
        self.assert_no_such("person", 0, Home().area, 0)
        self.assert_no_such("person", -1, Home().forward, -1, "busy")

    def test_two_registers_beside_each_other(self):
        first, second = three(), three()
        first.set_area(0, 1)
        first.set_forward(0, "busy", "1")
        self.assertEqual([second.area(0), second.forward(0, "busy")], [None, None])


if __name__ == "__main__":
    unittest.main()
