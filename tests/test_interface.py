"""The names of the interface: their files, their arguments and their examples."""

import doctest
import importlib
import inspect
import os
import unittest

ROOT = os.path.dirname(os.path.dirname(os.path.abspath(__file__)))

FUNCTIONS = {
    "bits": {
        "number_bits": "number count", "bits_number": "bits", "octet_bits": "octets", "bits_octets": "bits",
        "flipped": "bits places", "distance": "first second",
    },
    "polynomials": {
        "remainder": "bits divisor", "parity": "content divisor", "is_right": "content found divisor",
    },
    "trellis": {"convolve": "bits", "nearest": "coded"},
    "bursts": {"code_block": "octets", "read_block": "bursts"},
    "shorts": {
        "code_sync": "colour reduced", "read_sync": "bits", "code_access": "colour content",
        "read_access": "bits colour",
    },
    "speech": {"code_speech": "bits", "read_speech": "halves"},
    "calendar": {
        "counters": "frame", "frame_of": "t1 t2 t3", "reduced": "frame", "frame_of_reduced": "number",
        "control_slot": "frame", "common_block": "frame", "traffic_slot": "frame",
        "frames_between": "first second",
    },
    "groups": {
        "group_of": "digits blocks turns", "is_page_frame": "frame group blocks turns",
        "page_frame": "frame group blocks turns",
    },
    "identities": {
        "subscriber_octets": "digits", "number_octets": "digits", "read_subscriber": "octets",
        "read_number": "octets", "area_octets": "country net place", "read_area": "octets",
        "check_digit": "digits", "has_right_check": "digits",
    },
    "alphabet": {"septets": "text", "text_of": "row"},
    "packing": {"pack": "row start", "unpack": "octets start count"},
    "parts": {"cut": "text mark", "read_part": "octets"},
    "blocks": {"pack_frame": "frame", "unpack_frame": "block"},
    "camping": {"next_camp": "signals phone camp"},
    "access": {"may_ask": "number tries tick", "heard": "asks"},
    "messages": {"write_message": "message"},
    "reading": {"read_message": "octets"},
    "goals": {"find_goal": "home number caller busy hops"},
}

# How each class is called, and its methods with their arguments behind self; a property has None.
CLASSES = {
    "collector": ("Collector", "", {"take": "octets", "held": None}),
    "ends": ("End", "side", {
        "state": None, "idle": None, "begin": "octets", "give": "octets", "send": "", "take": "frame", "messages": "",
    }),
    "line": ("Line", "", {"end": "side", "tick": "lost"}),
    "pool": ("Pool", "sizes", {
        "free": "cell tick", "hold": "cell channel owner tick", "let_go": "cell channel tick", "owner": "cell channel",
        "status": "cell channel tick", "held_by": "owner",
    }),
    "signals": ("Signals", "phones cells", {
        "level": "phone cell", "set_level": "phone cell level", "hears": "phone cell", "best": "phone without",
    }),
    "home": ("Home", "", {
        "add": "digits number", "with_digits": "digits", "with_number": "number", "digits": "person",
        "number": "person", "area": "person", "set_area": "person area", "forward": "person kind",
        "set_forward": "person kind number",
    }),
    "pages": ("Pages", "", {
        "ask": "person reason", "take": "person", "reason": "person", "sent": "person", "step": "tick areas",
    }),
    "phonecall": ("PhoneCall", "", {
        "state": None, "cause": None, "said": None, "heard": None, "dial": "number", "take": "message", "answer": "",
        "say": "octets", "hang": "reached", "end": "cause",
    }),
    "book": ("Book", "", {"begin": "caller called tick", "end": "line tick cause", "lines": "", "units": "person"}),
    "switch": ("Switch", "home", {
        "start": "person number linked tick", "answered": "person tick", "alerting": "person", "connect": "person",
        "connected": "person tick", "word": "person octets", "disconnect": "person cause tick", "lost": "person tick",
        "failed": "person linked tick", "step": "linked tick", "calls": "", "call_of": "person", "is_leg": "person",
    }),
    "air": ("Air", "signals", {
        "lose": "phone way blocks", "harm": "phone way places", "carry": "phone way cell block",
    }),
    "network": ("Network", "sizes areas", {
        "add_phone": "digits number", "power": "phone on", "set_level": "phone cell level", "lose": "phone way blocks",
        "harm": "phone way places", "dial": "phone number", "answer": "phone", "hang": "phone", "say": "phone octets",
        "text": "phone number text", "set_forward": "person kind number", "tick": "count", "is_on": "phone",
        "camp": "phone", "channel": "phone", "known_area": "phone", "wants": "phone", "call_state": "phone",
        "call_cause": "phone", "words_said": "phone", "words_heard": "phone", "outbox": "phone", "texts": "phone",
        "links": "", "channel_state": "cell channel", "area": "person", "page": "person", "stored": "person",
        "calls": "", "lines": "", "units": "person", "ticks": None,
    }),
}


class InterfaceTest(unittest.TestCase):
    def test_functions_have_their_arguments_and_stand_in_their_files(self):
        for name, functions in FUNCTIONS.items():
            module = importlib.import_module("mobileair." + name)
            for word, arguments in functions.items():
                function = getattr(module, word)
                self.assertTrue(inspect.isfunction(function), word)
                self.assertEqual(function.__module__, module.__name__, word)
                self.assertEqual(list(inspect.signature(function).parameters), arguments.split(), word)

    def test_classes_have_their_methods_and_stand_in_their_files(self):
        for name, (word, called, methods) in CLASSES.items():
            kind = getattr(importlib.import_module("mobileair." + name), word)
            self.assertTrue(inspect.isclass(kind), word)
            self.assertEqual(kind.__module__, "mobileair." + name)
            self.assertEqual(list(inspect.signature(kind).parameters), called.split(), word)
            for method, arguments in methods.items():
                found = vars(kind)[method]
                if arguments is None:
                    self.assertIsInstance(found, property, (word, method))
                else:
                    self.assertEqual(list(inspect.signature(found).parameters)[1:], arguments.split(), (word, method))

    def test_the_cell_that_is_left_out_is_passed_by_keyword(self):
        without = inspect.signature(importlib.import_module("mobileair.signals").Signals.best).parameters["without"]
        self.assertEqual((without.kind, without.default), (inspect.Parameter.KEYWORD_ONLY, None))

    def test_attributes_and_defaults(self):
        book = importlib.import_module("mobileair.book").Book
        home = importlib.import_module("mobileair.home").Home
        self.assertIsInstance(importlib.import_module("mobileair.switch").Switch(home()).book, book)
        tick = importlib.import_module("mobileair.network").Network.tick
        self.assertEqual(inspect.signature(tick).parameters["count"].default, 1)

    def test_errors_stand_in_their_file(self):
        module = importlib.import_module("mobileair.errors")
        for word in ("MobileError", "BadBits", "BadNumber", "BadText", "NoSuch", "NotNow", "OutOfRange"):
            self.assertEqual(getattr(module, word).__module__, "mobileair.errors")
        for word, arguments in (("NoSuch", ["what", "number"]), ("NotNow", ["what"]), ("OutOfRange", ["what"])):
            kind = getattr(module, word)
            self.assertIn("__init__", vars(kind))
            self.assertEqual(list(inspect.signature(kind).parameters), arguments)

    def test_the_examples_of_the_readme(self):
        result = doctest.testfile(os.path.join(ROOT, "README.md"), module_relative=False)
        self.assertGreater(result.attempted, 0)
        self.assertEqual(result.failed, 0)


if __name__ == "__main__":
    unittest.main()
