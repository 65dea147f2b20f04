"""The book (point 101)."""

import unittest

from mobileair.book import Book
from mobileair.errors import NotNow
from tests.helpers import ProgramTest


class BookTest(ProgramTest):
    def test_no_lines(self):
        book = Book()
        self.assertEqual(book.lines(), [])
        self.assertEqual([book.units(person) for person in (0, 1, 7)], [0, 0, 0])

    def test_lines_in_the_order_in_which_they_begin(self):
        book = Book()
        self.assertEqual([book.begin(3, 1, 5), book.begin(0, 2, 5), book.begin(3, 0, 9)], [0, 1, 2])
        self.assertEqual(book.lines(), [(3, 1, 5, None, None), (0, 2, 5, None, None), (3, 0, 9, None, None)])

    def test_lines_end_in_any_order(self):
        book = Book()
        for person in range(3):
            book.begin(person, 7, 10 + person)
        self.assertIsNone(book.end(1, 30, 16))
        self.assertEqual(book.lines(), [(0, 7, 10, None, None), (1, 7, 11, 30, 16), (2, 7, 12, None, None)])
        self.assertEqual(book.begin(5, 6, 31), 3)
        self.assertIsNone(book.end(3, 31, 27))
        self.assertIsNone(book.end(0, 40, 0))
        self.assertEqual(book.lines(), [(0, 7, 10, 40, 0), (1, 7, 11, 30, 16), (2, 7, 12, None, None), (5, 6, 31, 31, 27)])

    def test_a_line_that_has_ended(self):
        book = Book()
        book.begin(0, 1, 0)
        book.begin(1, 2, 0)
        book.end(0, 0, 0)
        before = book.lines()
        for tick, cause in ((0, 0), (5, 16)):
            self.assert_raises_what(NotNow, "end", book.end, 0, tick, cause)
        self.assertEqual(book.lines(), before)
        book.end(1, 9, 16)
        self.assert_raises_what(NotNow, "end", book.end, 1, 9, 16)

    def test_units(self):
        for length, units in ((0, 1), (1, 1), (9, 1), (10, 2), (11, 2), (19, 2), (20, 3), (100, 11)):
            for begin in (0, 7):
                book = Book()
                book.begin(4, 2, begin)
                self.assertEqual(book.units(4), 0)
                book.end(0, begin + length, 16)
                self.assertEqual([book.units(4), book.units(2), book.units(0)], [units, 0, 0])

    def test_units_of_several_callers(self):
        book = Book()
        for caller, called, begin, end in ((0, 1, 0, 9), (1, 0, 20, 31), (0, 2, 40, 60), (0, 1, 70, None), (2, 0, 5, 5)):
            line = book.begin(caller, called, begin)
            if end is not None:
                book.end(line, end, 16)
        self.assertEqual([book.units(person) for person in range(4)], [4, 2, 1, 0])
        book.end(3, 79, 16)
        self.assertEqual(book.units(0), 5)

    def test_the_list_that_is_returned(self):
        book = Book()
        book.begin(0, 1, 0)
        lines = book.lines()
        lines.append((1, 1, 1, 1, 1))
        lines[0] = None
        self.assertEqual(book.lines(), [(0, 1, 0, None, None)])
        kept = book.lines()
        book.end(0, 3, 16)
        self.assertEqual(kept, [(0, 1, 0, None, None)])


if __name__ == "__main__":
    unittest.main()
