"""Identities (points 29 to 33)."""

import random
import re
import unittest

from mobileair.errors import BadNumber
from mobileair.identities import (
    area_octets, check_digit, has_right_check, number_octets, read_area, read_number, read_subscriber,
    subscriber_octets,
)
from tests.helpers import ProgramTest, changed_rows, random_octets

# What is no digit, the digits of other scripts included.
NO_DIGITS = ["a", "A", "F", " ", "+", "-", ".", "\n", "_", "/", ":", "*", "#", "?", "\u00b2", "\u0663", "\uff15"]
PLACES = (0, 1, 15, 16, 255, 256, 257, 4660, 32768, 65279, 65280, 65534, 65535)


def some_digits(count):
    """A few strings of so many digits, all of them with each digit somewhere."""
    chance = random.Random(count)
    fixed = ["0" * count, "9" * count, "1234567890123456789"[:count], "0987654321098765432"[:count]]
    return fixed + ["".join(chance.choice("0123456789") for _ in range(count)) for _ in range(20)]


def with_no_digit(digits):
    """The digits with something else in place of each one, and in front and behind."""
    wrong = [digits[:at] + sign + digits[at + 1:] for at in range(len(digits)) for sign in NO_DIGITS]
    return wrong + [digits + "\n", "\n" + digits, " " + digits, digits + " ", "+" + digits]


def pairs_by_hand(digits):
    octets = []
    while digits:
        second = 15 if len(digits) == 1 else int(digits[1])
        octets.append(int(digits[0]) + 16 * second)
        digits = digits[2:]
    return tuple(octets)


def subscriber_by_hand(digits):
    first = 16 * int(digits[0]) + {0: 1, 1: 9}[len(digits) % 2]
    return (first, *pairs_by_hand(digits[1:]))


def halves(octets):
    """The halves of the octets as signs 0 to f, the lower half of each octet first."""
    return "".join(f"{octet % 16:x}{octet // 16:x}" for octet in octets)


def is_subscriber(octets):
    return re.fullmatch("9([0-9]{7}|[0-9]{9}|[0-9]{11}|[0-9]{13}|[0-9]{15})"
                        "|1([0-9]{6}|[0-9]{8}|[0-9]{10}|[0-9]{12}|[0-9]{14})f", halves(octets)) is not None


def is_number(octets):
    return octets[:1] == (129,) and re.fullmatch("([0-9]{2}){1,9}|([0-9]{2}){0,8}[0-9]f", halves(octets[1:])) is not None


def is_area(octets):
    return len(octets) == 5 and re.fullmatch("[0-9]{3}[0-9f][0-9]{2}", halves(octets[:3])) is not None


class WrittenFormTest(ProgramTest):
    """What the three written forms share."""

    def assert_read(self, octets, is_form, write, read):
        """The octets are read as what is written as them, or not at all."""
        before = tuple(octets)
        if is_form(octets):
            found = read(octets)
            again = write(*found) if isinstance(found, tuple) else write(found)
            self.assertEqual(again, octets)
        else:
            self.assert_bare(BadNumber, read, octets)
        self.assertEqual(octets, before)

    def assert_reads_all(self, rows, is_form, write, read):
        for octets in rows:
            self.assert_read(octets, is_form, write, read)

    def some_rows(self):
        """No octets, all single ones, and rows by chance that often look like digits."""
        chance = random.Random(30)
        rows = [()] + [(octet,) for octet in range(256)]
        for _ in range(3000):
            rows.append(random_octets(chance, chance.randrange(2, 13)))
            digits = [chance.randrange(10) + 16 * chance.randrange(10) for _ in range(chance.randrange(1, 12))]
            first = [chance.choice((1, 9, 129, 17, 25, 145, 153))] if chance.randrange(4) else []
            last = [chance.choice((240, 241, 249, 255, 31))] if chance.randrange(2) else []
            rows.append(tuple(first + digits + last))
        return rows


class SubscriberTest(WrittenFormTest):
    def test_known_octets(self):
        self.assertEqual(subscriber_octets("123456"), (17, 50, 84, 246))
        self.assertEqual(subscriber_octets("1234567"), (25, 50, 84, 118))
        self.assertEqual(subscriber_octets("000000"), (1, 0, 0, 240))
        self.assertEqual(subscriber_octets("9999999"), (153, 153, 153, 153))
        self.assertEqual(subscriber_octets("262011234567890"), (41, 38, 16, 33, 67, 101, 135, 9))

    def test_each_count(self):
        for count in range(6, 16):
            for digits in some_digits(count):
                octets = subscriber_octets(digits)
                self.assert_octets(octets)
                self.assertEqual(len(octets), 1 + count // 2)
                self.assertEqual(octets, subscriber_by_hand(digits))
                self.assertEqual(read_subscriber(octets), digits)
                self.assertIs(type(read_subscriber(octets)), str)

    def test_wrong_counts(self):
        for count in (*range(6), *range(16, 20), 60):
            self.assert_bare(BadNumber, subscriber_octets, "1" * count)

    def test_wrong_characters(self):
        for digits in ("123456", "1234567", "262011234567890"):
            for wrong in with_no_digit(digits):
                self.assert_bare(BadNumber, subscriber_octets, wrong)

    def test_counts_that_cannot_be_read(self):
        for digits in ("1", "12", "123", "1234", "12345", "1" * 16, "1" * 17, "1" * 18):
            self.assert_bare(BadNumber, read_subscriber, subscriber_by_hand(digits))

    def test_what_is_wrong_in_a_half(self):
        for half in range(10, 16):
            self.assert_bare(BadNumber, read_subscriber, (16 * half + 1, 50, 84, 246))
            self.assert_bare(BadNumber, read_subscriber, (17, 48 + half, 84, 246))
            self.assert_bare(BadNumber, read_subscriber, (17, 50, 16 * half + 4, 246))
            self.assert_bare(BadNumber, read_subscriber, (17, 50, 84, 240 + half))
            self.assert_bare(BadNumber, read_subscriber, (25, 50, 84, 16 * half + 6))
            self.assert_bare(BadNumber, read_subscriber, (25, 50, 84, 112 + half))
        for half in range(10, 15):
            self.assert_bare(BadNumber, read_subscriber, (17, 50, 84, 16 * half + 6))
        for half in range(10):
            self.assert_bare(BadNumber, read_subscriber, (17, 50, 84, 16 * half + 6))

    def test_the_first_octet(self):
        for kind in range(16):
            if kind != 1:
                self.assert_bare(BadNumber, read_subscriber, (16 + kind, 50, 84, 246))
            if kind != 9:
                self.assert_bare(BadNumber, read_subscriber, (16 + kind, 50, 84, 118))

    def test_changed_octets(self):
        for count in range(6, 16):
            for digits in some_digits(count)[1:4]:
                rows = changed_rows(subscriber_octets(digits))
                self.assert_reads_all(rows, is_subscriber, subscriber_octets, read_subscriber)

    def test_any_octets(self):
        self.assert_reads_all(self.some_rows(), is_subscriber, subscriber_octets, read_subscriber)

    def test_more_than_an_octet_is_no_half(self):
        for octets in ((273, 50, 84, 246), (17, 306, 84, 246), (17, 50, 84, 502), (17, 50, 84, -10)):
            self.assert_bare(BadNumber, read_subscriber, octets)


class NumberTest(WrittenFormTest):
    def test_known_octets(self):
        self.assertEqual(number_octets("12"), (129, 33))
        self.assertEqual(number_octets("7"), (129, 247))
        self.assertEqual(number_octets("0"), (129, 240))
        self.assertEqual(number_octets("123"), (129, 33, 243))
        self.assertEqual(number_octets("987654321012345678"), (129, 137, 103, 69, 35, 1, 33, 67, 101, 135))

    def test_each_count(self):
        for count in range(1, 19):
            for digits in some_digits(count):
                octets = number_octets(digits)
                self.assert_octets(octets)
                self.assertEqual(octets, (129, *pairs_by_hand(digits)))
                self.assertEqual(read_number(octets), digits)
                self.assertIs(type(read_number(octets)), str)

    def test_wrong_counts(self):
        for count in (0, 19, 20, 21, 60):
            self.assert_bare(BadNumber, number_octets, "1" * count)
            self.assert_bare(BadNumber, read_number, (129, *pairs_by_hand("1" * count)))

    def test_wrong_characters(self):
        for digits in ("1", "12", "123", "123456789012345678"):
            for wrong in with_no_digit(digits):
                self.assert_bare(BadNumber, number_octets, wrong)

    def test_changed_octets(self):
        for count in range(1, 19):
            for digits in some_digits(count)[1:4]:
                self.assert_reads_all(changed_rows(number_octets(digits)), is_number, number_octets, read_number)

    def test_any_octets(self):
        rows = self.some_rows() + [(129, octet) for octet in range(256)]
        self.assert_reads_all(rows, is_number, number_octets, read_number)

    def test_all_pairs_of_octets(self):
        found = []
        for first in range(256):
            for second in range(256):
                try:
                    found.append((first, read_number((first, second))[:2]))
                except BadNumber:
                    pass
        self.assertEqual(sorted(found), sorted((129, f"{number:0{count}d}") for count in (1, 2)
                                               for number in range(10 ** count)))


class AreaTest(WrittenFormTest):
    def test_known_octets(self):
        self.assertEqual(area_octets("001", "01", 258), (0, 241, 16, 1, 2))
        self.assertEqual(area_octets("123", "456", 65535), (33, 99, 84, 255, 255))
        self.assertEqual(area_octets("123", "45", 255), (33, 243, 84, 0, 255))
        self.assertEqual(area_octets("999", "000", 256), (153, 9, 0, 1, 0))

    def test_countries_nets_and_places(self):
        for country in some_digits(3):
            for net in some_digits(2) + some_digits(3):
                for place in PLACES:
                    c1, c2, c3 = map(int, country)
                    n1, n2, n3 = map(int, net) if len(net) == 3 else (int(net[0]), int(net[1]), 15)
                    octets = area_octets(country, net, place)
                    self.assertEqual(octets, (16 * c2 + c1, 16 * n3 + c3, 16 * n2 + n1, place // 256, place % 256))
                    self.assert_octets(octets)
                    self.assertEqual(read_area(octets), (country, net, place))

    def test_wrong_places(self):
        for place in (-1, -2, -256, -65536, 65536, 65537, 10 ** 9):
            for net in ("01", "012"):
                self.assert_bare(BadNumber, area_octets, "001", net, place)

    def test_wrong_counts(self):
        for country in ("", "0", "00", "0010", "00100"):
            self.assert_bare(BadNumber, area_octets, country, "01", 1)
            self.assert_bare(BadNumber, area_octets, country, "012", 1)
        for net in ("", "0", "0123", "01234"):
            self.assert_bare(BadNumber, area_octets, "001", net, 1)

    def test_wrong_characters(self):
        for wrong in with_no_digit("001"):
            self.assert_bare(BadNumber, area_octets, wrong, "01", 1)
            self.assert_bare(BadNumber, area_octets, wrong, "012", 1)
            self.assert_bare(BadNumber, area_octets, "001", wrong, 1)
        for wrong in with_no_digit("01"):
            self.assert_bare(BadNumber, area_octets, "001", wrong, 1)

    def test_changed_octets(self):
        for net in ("01", "12", "99", "000", "012", "999"):
            for place in (0, 255, 65535, 4660):
                self.assert_reads_all(changed_rows(area_octets("123", net, place)), is_area, area_octets, read_area)

    def test_any_octets(self):
        self.assert_reads_all(self.some_rows(), is_area, area_octets, read_area)

    def test_more_than_an_octet_is_no_place(self):
        for octets in ((0, 241, 16, 0, 256), (0, 241, 16, 1, -1), (0, 241, 16, 256, 0), (256, 241, 16, 0, 1)):
            self.assert_bare(BadNumber, read_area, octets)

    def test_all_halves(self):
        rows = [(first, second, 16, 1, 2) for first in range(256) for second in range(256)]
        rows += [(0, 241, octet, 1, 2) for octet in range(256)] + [(0, 1, octet, 1, 2) for octet in range(256)]
        self.assert_reads_all(rows, is_area, area_octets, read_area)


def check_by_hand(digits):
    """The digit that is missing to a multiple of 10."""
    total = 0
    for at in range(len(digits)):
        digit = int(digits[-1 - at])
        total += sum(map(int, str(2 * digit))) if at % 2 == 0 else digit
    return str((10 - total % 10) % 10)


class CheckTest(ProgramTest):
    def test_known_check_digits(self):
        self.assertEqual(check_digit("123"), "0")
        self.assertEqual(check_digit("7992739871"), "3")
        self.assertEqual(check_digit("49015420323751"), "8")
        self.assertEqual(check_digit("0"), "0")
        self.assertEqual([check_digit(digit) for digit in "0123456789"], list("0864297531"))

    def test_each_count(self):
        for count in range(1, 19):
            for digits in some_digits(count):
                check = check_digit(digits)
                self.assertIs(type(check), str)
                self.assertEqual(check, check_by_hand(digits))
                for other in "0123456789":
                    self.assertIs(has_right_check(digits + other), other == check)

    def test_one_digit_changed(self):
        for count in range(1, 19):
            for digits in some_digits(count)[2:8]:
                right = digits + check_by_hand(digits)
                for at in range(count + 1):
                    for other in "0123456789":
                        changed = right[:at] + other + right[at + 1:]
                        self.assertIs(has_right_check(changed), other == right[at])

    def test_two_unlike_neighbours_exchanged(self):
        for count in range(1, 19):
            for digits in some_digits(count)[2:]:
                right = digits + check_by_hand(digits)
                for at in range(count):
                    pair = right[at:at + 2]
                    exchanged = right[:at] + pair[::-1] + right[at + 2:]
                    # 9 counts 9 doubled too, as 0 counts 0: these two may change their places.
                    same = pair[0] == pair[1] or pair in ("09", "90")
                    self.assertIs(has_right_check(exchanged), same)

    def test_wrong_counts(self):
        for count in (0, 19, 20, 60):
            self.assert_bare(BadNumber, check_digit, "1" * count)
        for count in (0, 1, 20, 21, 60):
            self.assert_bare(BadNumber, has_right_check, "1" * count)
            self.assert_bare(BadNumber, has_right_check, "0" * count)

    def test_wrong_characters(self):
        for digits in ("12", "123", "123456789012345678"):
            for wrong in with_no_digit(digits):
                self.assert_bare(BadNumber, check_digit, wrong)
                self.assert_bare(BadNumber, has_right_check, wrong)


if __name__ == "__main__":
    unittest.main()
