"""The octets of the messages (point 77)."""

import unittest

from mobileair.messages import write_message
from tests.helpers import ProgramTest

# Each message of the table, with its octets written out by hand.
ROWS = [
    (("area update", 0, "123456"), (5, 8, 0, 241, 16, 0, 0, 17, 50, 84, 246)),
    (("area update", 3, "1234567"), (5, 8, 0, 241, 16, 0, 3, 25, 50, 84, 118)),
    (("area update", 1, "001019876543210"), (5, 8, 0, 241, 16, 0, 1, 9, 16, 16, 137, 103, 69, 35, 1)),
    (("area accept", 0), (5, 2, 0, 241, 16, 0, 0)),
    (("area accept", 3), (5, 2, 0, 241, 16, 0, 3)),
    (("service", "call", "123456"), (5, 36, 1, 17, 50, 84, 246)),
    (("service", "call", "99999999999999"), (5, 36, 1, 145, 153, 153, 153, 153, 153, 153, 249)),
    (("service", "texts", "123456"), (5, 36, 4, 17, 50, 84, 246)),
    (("service", "texts", "000000000000001"), (5, 36, 4, 9, 0, 0, 0, 0, 0, 0, 16)),
    (("service accept",), (5, 33)),
    (("page answer", "654321"), (6, 39, 97, 69, 35, 241)),
    (("page answer", "12345678"), (6, 39, 17, 50, 84, 118, 248)),
    (("release",), (6, 13)),
    (("handover", 0, 0), (6, 43, 0, 0)),
    (("handover", 3, 5), (6, 43, 3, 5)),
    (("handover", 1, 2), (6, 43, 1, 2)),
    (("handover done",), (6, 44)),
    (("setup", "1"), (3, 5, 129, 241)),
    (("setup", "12"), (3, 5, 129, 33)),
    (("setup", "123"), (3, 5, 129, 33, 243)),
    (("setup", "12345678"), (3, 5, 129, 33, 67, 101, 135)),
    (("setup", "123456789"), (3, 5, 129, 33, 67, 101, 135, 249)),
    (("setup", "000000000"), (3, 5, 129, 0, 0, 0, 0, 240)),
    (("proceeding",), (3, 2)),
    (("alerting",), (3, 1)),
    (("connect",), (3, 7)),
    (("connect done",), (3, 15)),
    (("disconnect", 0), (3, 37, 0)),
    (("disconnect", 16), (3, 37, 16)),
    (("disconnect", 127), (3, 37, 127)),
    (("word", (0,)), (3, 60, 0)),
    (("word", (255, 0, 43)), (3, 60, 255, 0, 43)),
    (("word", tuple(range(40))), (3, 60, *range(40))),
    (("submit", 0, "1", (7,)), (9, 1, 0, 2, 129, 241, 7)),
    (("submit", 11, "12", (0, 1, 97)), (9, 1, 11, 2, 129, 33, 0, 1, 97)),
    (("submit", 5, "123456789", tuple(range(150))), (9, 1, 5, 6, 129, 33, 67, 101, 135, 249, *range(150))),
    (("stored",), (9, 4)),
    (("refused",), (9, 16)),
    (("deliver", "1", (0,)), (9, 2, 2, 129, 241, 0)),
    (("deliver", "1234", (0, 1, 97)), (9, 2, 3, 129, 33, 67, 0, 1, 97)),
    (("deliver", "987654321", (255,) * 150), (9, 2, 6, 129, 137, 103, 69, 35, 241, *[255] * 150)),
    (("taken",), (9, 5)),
]

NAMES = {
    "area update", "area accept", "service", "service accept", "page answer", "release", "handover", "handover done",
    "setup", "proceeding", "alerting", "connect", "connect done", "disconnect", "word", "submit", "stored", "refused",
    "deliver", "taken",
}


class MessagesTest(ProgramTest):
    def test_the_example(self):
        self.assertEqual(write_message(("setup", "12")), (3, 5, 129, 33))

    def test_each_message_of_the_table(self):
        for message, octets in ROWS:
            self.assertEqual(write_message(message), octets, message)
            self.assert_octets(write_message(message))
        self.assertEqual({message[0] for message, _ in ROWS}, NAMES)

    def test_subscriber_digits_of_every_count(self):
        digits = "987654321098765"
        octets = {
            6: (145, 120, 86, 244), 7: (153, 120, 86, 52), 8: (145, 120, 86, 52, 242), 9: (153, 120, 86, 52, 18),
            10: (145, 120, 86, 52, 18, 240), 11: (153, 120, 86, 52, 18, 144), 12: (145, 120, 86, 52, 18, 144, 248),
            13: (153, 120, 86, 52, 18, 144, 120), 14: (145, 120, 86, 52, 18, 144, 120, 246),
            15: (153, 120, 86, 52, 18, 144, 120, 86),
        }
        for count, wanted in octets.items():
            self.assertEqual(write_message(("page answer", digits[:count])), (6, 39) + wanted)
            self.assertEqual(write_message(("service", "call", digits[:count])), (5, 36, 1) + wanted)
            self.assertEqual(write_message(("service", "texts", digits[:count])), (5, 36, 4) + wanted)
            self.assertEqual(write_message(("area update", 2, digits[:count])), (5, 8, 0, 241, 16, 0, 2) + wanted)

    def test_numbers_of_every_count(self):
        digits = "987654321"
        octets = [(249,), (137,), (137, 247), (137, 103), (137, 103, 245), (137, 103, 69), (137, 103, 69, 243),
                  (137, 103, 69, 35), (137, 103, 69, 35, 241)]
        for count, row in enumerate(octets, start=1):
            wanted = (129,) + row
            self.assertEqual(write_message(("setup", digits[:count])), (3, 5) + wanted)
            self.assertEqual(write_message(("submit", 1, digits[:count], (4, 5))), (9, 1, 1, len(wanted), *wanted, 4, 5))
            self.assertEqual(write_message(("deliver", digits[:count], (4, 5))), (9, 2, len(wanted), *wanted, 4, 5))

    def test_all_small_numbers(self):
        for area in range(4):
            self.assertEqual(write_message(("area accept", area)), (5, 2, 0, 241, 16, 0, area))
        for cause in range(128):
            self.assertEqual(write_message(("disconnect", cause)), (3, 37, cause))
        for cell in range(4):
            for channel in range(6):
                self.assertEqual(write_message(("handover", cell, channel)), (6, 43, cell, channel))
        for left in range(12):
            self.assertEqual(write_message(("submit", left, "12", (1,))), (9, 1, left, 2, 129, 33, 1))

    def test_somewhat_beyond_the_limits_there_is_no_error(self):
        self.assertEqual(write_message(("setup", "1234567890")), (3, 5, 129, 33, 67, 101, 135, 9))
        self.assertEqual(write_message(("page answer", "12345")), (6, 39, 25, 50, 84))
        self.assertEqual(write_message(("page answer", "1234567890123456"))[-1], 246)
        self.assertEqual(write_message(("area accept", 4)), (5, 2, 0, 241, 16, 0, 4))
        self.assertEqual(write_message(("disconnect", 128)), (3, 37, 128))
        self.assertEqual(write_message(("handover", 4, 6)), (6, 43, 4, 6))
        self.assertEqual(write_message(("submit", 12, "1", (1,))), (9, 1, 12, 2, 129, 241, 1))
        self.assertEqual(write_message(("word", ())), (3, 60))
        self.assertEqual(write_message(("word", (1,) * 41)), (3, 60) + (1,) * 41)
        self.assertEqual(write_message(("deliver", "1", (2,) * 151)), (9, 2, 2, 129, 241) + (2,) * 151)


if __name__ == "__main__":
    unittest.main()
