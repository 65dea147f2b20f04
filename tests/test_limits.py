"""The constants of limits.py."""

import unittest

from mobileair import limits

WANTED = {
    "MOST_CELLS": 4, "MOST_CHANNELS": 6, "MOST_PHONES": 8, "MOST_AREAS": 4,
    "HEARING": 5, "CAMPING": 10, "BETTER": 6, "CAPTURE": 8,
    "PHONE_LOSS": 8, "NETWORK_LOSS": 12, "REST": 10, "EVERY": 3, "TIMES": 6, "TRIES": 3,
    "AREA_REST": 20, "PAGE_EVERY": 3, "PAGE_TIMES": 3, "RING": 16, "HOPS": 2,
    "MOST_STORED": 40, "MOST_OUTBOX": 12, "SETTLE": 300,
}


class LimitsTest(unittest.TestCase):
    def test_each_constant(self):
        for name, number in WANTED.items():
            self.assertIs(type(getattr(limits, name)), int, name)
            self.assertEqual(getattr(limits, name), number, name)

    def test_there_are_no_others(self):
        self.assertEqual({name for name in vars(limits) if not name.startswith("_")}, set(WANTED))


if __name__ == "__main__":
    unittest.main()
