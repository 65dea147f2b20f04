"""Reading messages (point 78)."""

import itertools
import random
import unittest

from mobileair.messages import write_message
from mobileair.reading import read_message
from tests.helpers import ProgramTest, changed_rows, random_octets
from tests.test_messages import ROWS

PAIRS = {
    (5, 8), (5, 2), (5, 36), (5, 33), (6, 39), (6, 13), (6, 43), (6, 44), (3, 5), (3, 2), (3, 1), (3, 7), (3, 15),
    (3, 37), (3, 60), (9, 1), (9, 4), (9, 16), (9, 2), (9, 5),
}
ALONE = {
    (5, 33): "service accept", (6, 13): "release", (6, 44): "handover done", (3, 2): "proceeding", (3, 1): "alerting",
    (3, 7): "connect", (3, 15): "connect done", (9, 4): "stored", (9, 16): "refused", (9, 5): "taken",
}


def halves(octets):
    return [half for octet in octets for half in (octet % 16, octet // 16)]


def digits_by_hand(row):
    """The digits of a row of halves of which the last one may be 15, or None."""
    if row and row[-1] == 15:
        row = row[:-1]
    return "".join(map(str, row)) if all(half < 10 for half in row) else None


def subscriber_by_hand(octets):
    if not octets:
        return None
    first, *row = halves(octets)
    digits = digits_by_hand(row)
    if digits is None or not 6 <= len(digits) <= 15:
        return None
    return digits if first == (9 if len(digits) % 2 else 1) and (row[-1] == 15) == (first == 1) else None


def number_by_hand(octets):
    if octets[:1] != (129,):
        return None
    digits = digits_by_hand(halves(octets[1:]))
    return digits if digits is not None and 1 <= len(digits) <= 9 else None


def by_hand(octets):
    """The message, by a look at each first pair of octets."""
    pair, rest = octets[:2], octets[2:]
    if pair in ALONE:
        return None if rest else (ALONE[pair],)
    if pair in ((5, 8), (5, 2)):
        if rest[:4] != (0, 241, 16, 0) or len(rest) < 5 or rest[4] > 3:
            return None
        if pair == (5, 2):
            return ("area accept", rest[4]) if len(rest) == 5 else None
        digits = subscriber_by_hand(rest[5:])
        return None if digits is None else ("area update", rest[4], digits)
    if pair == (5, 36):
        digits = subscriber_by_hand(rest[1:])
        if digits is None or rest[0] not in (1, 4):
            return None
        return ("service", "call" if rest[0] == 1 else "texts", digits)
    if pair == (6, 39):
        digits = subscriber_by_hand(rest)
        return None if digits is None else ("page answer", digits)
    if pair == (6, 43):
        return ("handover", *rest) if len(rest) == 2 and rest[0] < 4 and rest[1] < 6 else None
    if pair == (3, 5):
        digits = number_by_hand(rest)
        return None if digits is None else ("setup", digits)
    if pair == (3, 37):
        return ("disconnect", rest[0]) if len(rest) == 1 and rest[0] < 128 else None
    if pair == (3, 60):
        return ("word", rest) if 1 <= len(rest) <= 40 else None
    if pair in ((9, 1), (9, 2)):
        return text_by_hand(pair, rest)
    return None


def text_by_hand(pair, rest):
    head = ("deliver",)
    if pair == (9, 1):
        if not rest or rest[0] > 11:
            return None
        head, rest = ("submit", rest[0]), rest[1:]
    if not rest or len(rest) < 1 + rest[0]:
        return None
    digits = number_by_hand(rest[1:1 + rest[0]])
    part = rest[1 + rest[0]:]
    return (*head, digits, part) if digits is not None and 1 <= len(part) <= 150 else None


class ReadingTest(ProgramTest):
    def assert_none(self, *rows):
        for octets in rows:
            self.assertIsNone(read_message(octets), octets)

    def test_the_example(self):
        self.assertEqual(read_message((3, 37, 16)), ("disconnect", 16))

    def test_each_message_is_read_as_it_was_written(self):
        for message, octets in ROWS:
            self.assertEqual(read_message(octets), message)
            self.assertIs(type(read_message(octets)), tuple)
            self.assertEqual(read_message(write_message(message)), message)

    def test_too_few_octets(self):
        self.assert_none((), *[(octet,) for octet in range(256)])

    def test_first_pairs_that_the_table_does_not_have(self):
        for pair in itertools.product(range(256), repeat=2):
            wanted = (ALONE[pair],) if pair in ALONE else None
            self.assertEqual(read_message(pair), wanted)
            if pair not in PAIRS:
                self.assert_none(pair + (0,), pair + (129, 33), pair + (17, 50, 84, 246), pair + (0, 0))

    def test_each_message_with_its_end_cut_off(self):
        for message, octets in ROWS:
            for size in range(2, len(octets)):
                found = read_message(octets[:size])
                # What is cut from a word, a part or a row of digits may leave a shorter one.
                self.assertEqual(found, by_hand(octets[:size]), (message, size))
                if message[0] not in ("word", "submit", "deliver", "setup", "area update", "service", "page answer"):
                    self.assertIsNone(found, message)

    def test_each_message_with_an_octet_behind_it(self):
        for message, octets in ROWS:
            for more in (0, 1, 15, 33, 43, 129, 240, 255):
                found = read_message(octets + (more,))
                self.assertEqual(found, by_hand(octets + (more,)), (message, more))
                if message[0] not in ("word", "submit", "deliver", "setup", "area update", "service", "page answer"):
                    self.assertIsNone(found, message)

    def test_every_octet_changed(self):
        for message, octets in ROWS:
            if len(octets) < 40:
                for row in changed_rows(octets):
                    self.assertEqual(read_message(row), by_hand(row), row)

    def test_numbers(self):
        self.assertEqual(read_message((3, 5, 129, 0)), ("setup", "00"))
        self.assert_none(
            (3, 5), (3, 5, 129), (3, 5, 128, 33), (3, 5, 129, 255), (3, 5, 129, 250), (3, 5, 129, 26), (3, 5, 129, 31),
            (3, 5, 129, 163), (3, 5, 129, 241, 33), (3, 5, 129, 33, 67, 101, 135, 9),
            (3, 5, 129, 33, 67, 101, 135, 33, 243), (3, 5, 129, 33, 67, 101, 135, 249, 16),
        )

    def test_subscribers(self):
        self.assertEqual(read_message((6, 39, 9, 0, 0, 0)), ("page answer", "0000000"))
        self.assert_none(
            (6, 39), (6, 39, 25, 50, 84), (6, 39, 17, 50, 244), (6, 39, 25, 50, 84, 246), (6, 39, 17, 50, 84, 118),
            (6, 39, 161, 50, 84, 246), (6, 39, 18, 50, 84, 246), (6, 39, 17, 50, 90, 246), (6, 39, 17, 50, 84, 250),
            (6, 39, 17, 50, 84, 255), (6, 39, 153, 120, 86, 52, 18, 144, 120, 86, 241),
            (6, 39, 145, 120, 86, 52, 18, 144, 120, 86, 240),
        )
        for front in ((5, 36, 1), (5, 36, 4), (5, 8, 0, 241, 16, 0, 2)):
            self.assert_none(front, front + (25, 50, 84), front + (17, 50, 84, 118), front + (17, 50, 84))
        self.assert_none((5, 36), (5, 36, 0, 17, 50, 84, 246), (5, 36, 2, 17, 50, 84, 246), (5, 36, 5, 17, 50, 84, 246))

    def test_areas_of_another_country_or_net(self):
        for octets in ((16, 241, 16, 0, 2), (0, 242, 16, 0, 2), (0, 241, 0, 0, 2), (0, 17, 16, 0, 2),
                       (1, 241, 16, 0, 2), (0, 241, 32, 0, 2), (0, 1, 16, 0, 2), (0, 241, 16, 1, 2), (0, 241, 16, 0, 4),
                       (0, 241, 16, 0, 255), (0, 241, 16, 0), (0, 241, 16), ()):
            self.assert_none((5, 2) + octets, (5, 8) + octets + (17, 50, 84, 246))
        self.assertEqual(read_message((5, 2, 0, 241, 16, 0, 3)), ("area accept", 3))

    def test_values_beyond_their_range(self):
        self.assert_none((6, 43, 4, 0), (6, 43, 0, 6), (6, 43, 255, 0), (6, 43, 0), (6, 43), (3, 37, 128), (3, 37, 255),
                         (3, 37), (9, 1, 12, 2, 129, 33, 1), (9, 1, 255, 2, 129, 33, 1), (9, 1))

    def test_words(self):
        for count in range(1, 41):
            octets = tuple(range(200, 200 + count))
            self.assertEqual(read_message((3, 60) + octets), ("word", octets))
        self.assert_none((3, 60), (3, 60) + (1,) * 41, (3, 60) + (1,) * 100)

    def test_parts(self):
        for front, head in (((9, 1, 3, 2, 129, 33), ("submit", 3, "12")), ((9, 2, 2, 129, 33), ("deliver", "12"))):
            for count in (1, 2, 141, 149, 150):
                part = tuple(at % 256 for at in range(count))
                self.assertEqual(read_message(front + part), (*head, part))
            self.assert_none(front, front + (1,) * 151, front + (1,) * 200)

    def test_counts_of_number_octets(self):
        for front in ((9, 1, 3), (9, 2)):
            for count in (0, 1, 3, 4, 5, 6, 255):
                self.assert_none(front + (count, 129, 33, 171, 170, 187, 204, 221))
            self.assert_none(front, front + (2,), front + (2, 129), front + (2, 129, 33), front + (1, 129, 5))
            self.assert_none(front + (0, 5), front + (6, 129, 33, 67, 101, 135, 9, 5), front + (2, 128, 33, 1))
            self.assert_none(front + (7, 129, 33, 67, 101, 135, 33, 243, 5))
        # Here the octet that follows the number may also be one of its own.
        self.assertEqual(read_message((9, 2, 2, 129, 33, 67)), ("deliver", "12", (67,)))
        self.assertEqual(read_message((9, 2, 3, 129, 33, 67, 1)), ("deliver", "1234", (1,)))

    def test_random_rows_behind_each_first_pair(self):
        chance = random.Random(78)
        for pair in sorted(PAIRS):
            for _ in range(300):
                octets = pair + random_octets(chance, chance.randrange(12))
                self.assertEqual(read_message(octets), by_hand(octets), octets)


if __name__ == "__main__":
    unittest.main()
