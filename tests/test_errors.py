"""The errors: their classes and their fields (point 1 and the interface)."""

import unittest

from mobileair.errors import BadBits, BadNumber, BadText, MobileError, NoSuch, NotNow, OutOfRange

MADE = {
    BadBits: lambda: BadBits(),
    BadNumber: lambda: BadNumber(),
    BadText: lambda: BadText(),
    NoSuch: lambda: NoSuch("cell", 4),
    NotNow: lambda: NotNow("dial"),
    OutOfRange: lambda: OutOfRange("frame"),
}


class ErrorsTest(unittest.TestCase):
    def test_each_error_is_a_mobile_error_and_a_value_error(self):
        for kind, make in MADE.items():
            self.assertIsInstance(make(), MobileError)
            self.assertIsInstance(make(), ValueError)
            self.assertIn(MobileError, kind.__bases__)
        self.assertIn(ValueError, MobileError.__bases__)

    def test_each_error_is_none_of_the_other_five(self):
        for kind, make in MADE.items():
            for other in MADE:
                self.assertEqual(isinstance(make(), other), kind is other)

    def test_fields(self):
        error = NoSuch("cell", 4)
        self.assertEqual((error.what, error.number), ("cell", 4))
        self.assertEqual(NotNow("dial").what, "dial")
        self.assertEqual(OutOfRange("frame").what, "frame")

    def test_fields_by_keyword(self):
        error = NoSuch(number=9, what="phone")
        self.assertEqual((error.what, error.number), ("phone", 9))
        self.assertEqual(NotNow(what="room").what, "room")
        self.assertEqual(OutOfRange(what="t1").what, "t1")

    def test_each_object_has_its_own_fields(self):
        first, second = NoSuch("cell", 4), NoSuch("person", 5)
        self.assertEqual((first.what, first.number), ("cell", 4))
        self.assertEqual((second.what, second.number), ("person", 5))

    def test_arguments_must_be_there(self):
        for wrong in (lambda: NoSuch("cell"), lambda: NotNow(), lambda: OutOfRange(), lambda: OutOfRange("a", 1)):
            self.assertRaises(TypeError, wrong)


if __name__ == "__main__":
    unittest.main()
