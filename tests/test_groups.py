"""Groups for pages (points 27 and 28)."""

import unittest

from mobileair.calendar import FRAMES
from mobileair.groups import group_of, is_page_frame, page_frame
from tests.helpers import ProgramTest

FIRST_FRAMES = [6, 12, 16, 22, 26, 32, 36, 42, 46]
CELLS = [(blocks, turns) for blocks in range(1, 10) for turns in range(2, 10)]
WRONG_FRAMES = (-1, -51, 2715648, 2715649, 10 ** 9)


def pages(frame, group, blocks, turns):
    place = FIRST_FRAMES[9 - blocks + group % blocks]
    return frame % 51 == place and frame // 51 % turns == group // blocks


class GroupTest(ProgramTest):
    def test_known_groups(self):
        self.assertEqual(group_of("123456", 9, 9), 456 % 81)
        self.assertEqual(group_of("001", 1, 2), 1)
        self.assertEqual(group_of("100", 1, 2), 0)
        self.assertEqual(group_of("987654321000999", 4, 5), 19)
        self.assertEqual(group_of("55000", 3, 3), 0)
        self.assertEqual(group_of("123007", 2, 4), 7)

    def test_only_the_last_three_digits_count(self):
        for blocks, turns in CELLS:
            for number in (0, 7, 80, 81, 100, 345, 999):
                for front in ("", "1", "999", "123456789012"):
                    self.assertEqual(group_of(f"{front}{number:03d}", blocks, turns), number % (blocks * turns))

    def test_out_of_range(self):
        for blocks in (-1, 0, 10, 100):
            for turns in (2, 9, 1, 10, -1):
                self.assert_out_of_range("blocks", group_of, "123456", blocks, turns)
        for turns in (-1, 0, 1, 10, 100):
            for blocks in (1, 9):
                self.assert_out_of_range("turns", group_of, "123456", blocks, turns)


class PageFrameTest(ProgramTest):
    def test_known_page_frames(self):
        self.assertIs(is_page_frame(46, 0, 1, 2), True)
        self.assertIs(is_page_frame(46, 1, 1, 2), False)
        self.assertIs(is_page_frame(97, 1, 1, 2), True)
        self.assertIs(is_page_frame(6, 0, 9, 2), True)
        self.assertIs(is_page_frame(7, 0, 9, 2), False)
        self.assertIs(is_page_frame(12, 0, 8, 2), True)

    def test_a_frame_pages_at_most_one_group(self):
        for blocks, turns in CELLS:
            paged = []
            for frame in range(51 * turns):
                groups = [group for group in range(blocks * turns) if is_page_frame(frame, group, blocks, turns)]
                self.assertLessEqual(len(groups), 1)
                paged.extend(groups)
            self.assertEqual(sorted(paged), list(range(blocks * turns)))

    def test_against_the_words_of_the_point(self):
        for blocks, turns in CELLS:
            for group in range(0, blocks * turns, 4):
                for start in (0, 51 * 1000, FRAMES - 51 * turns):
                    for place in FIRST_FRAMES + [0, 7, 10, 11, 50]:
                        for turn in range(turns):
                            frame = start + 51 * turn + place
                            wanted = pages(frame, group, blocks, turns)
                            self.assertIs(is_page_frame(frame, group, blocks, turns), wanted)


class NextPageFrameTest(ProgramTest):
    def assert_next(self, frame, group, blocks, turns):
        wanted = frame
        while not pages(wanted, group, blocks, turns):
            wanted = (wanted + 1) % FRAMES
        self.assertEqual(page_frame(frame, group, blocks, turns), wanted, (frame, group, blocks, turns))

    def test_known_page_frames(self):
        self.assertEqual(page_frame(0, 0, 1, 2), 46)
        self.assertEqual(page_frame(46, 0, 1, 2), 46)
        self.assertEqual(page_frame(47, 0, 1, 2), 46 + 102)
        self.assertEqual(page_frame(0, 1, 1, 2), 97)

    def test_the_first_one_from_each_frame_on(self):
        for blocks, turns, group in ((1, 2, 0), (1, 2, 1), (9, 9, 80), (4, 5, 13), (3, 7, 0), (8, 3, 23)):
            for frame in range(51 * turns + 52):
                self.assert_next(frame, group, blocks, turns)

    def test_over_the_end_of_the_calendar(self):
        for blocks, turns in CELLS:
            for group in (0, blocks - 1, blocks, blocks * turns - 1):
                for before in (1, 5, 6, 30, 51, 52, 100, 51 * turns, 51 * turns + 1):
                    self.assert_next(FRAMES - before, group, blocks, turns)

    def test_a_gap_at_the_end_that_is_no_whole_turn(self):
        self.assertNotEqual(FRAMES // 51 % 9, 0)
        self.assertEqual(page_frame(FRAMES - 1, 0, 1, 9), 46)
        self.assertEqual(page_frame(FRAMES - 1, 8, 1, 9), 8 * 51 + 46)
        self.assertEqual(page_frame(FRAMES - 51, 4, 1, 9), 4 * 51 + 46)
        self.assertEqual(page_frame(FRAMES - 51, 3, 1, 9), FRAMES - 5)

    def test_a_page_frame_is_its_own_next(self):
        for blocks, turns in CELLS:
            for group in range(blocks * turns):
                found = page_frame(12345, group, blocks, turns)
                self.assertTrue(pages(found, group, blocks, turns))
                self.assertEqual(page_frame(found, group, blocks, turns), found)


class WrongArgumentsTest(ProgramTest):
    def test_blocks_first(self):
        for function in (is_page_frame, page_frame):
            for blocks in (-1, 0, 10):
                for turns, group, frame in ((2, 0, 0), (1, 0, 0), (10, -1, -1), (2, 99, FRAMES)):
                    self.assert_out_of_range("blocks", function, frame, group, blocks, turns)

    def test_then_turns(self):
        for function in (is_page_frame, page_frame):
            for turns in (-1, 0, 1, 10):
                for blocks, group, frame in ((1, 0, 0), (9, -1, -1), (9, 999, FRAMES)):
                    self.assert_out_of_range("turns", function, frame, group, blocks, turns)

    def test_then_the_group(self):
        for function in (is_page_frame, page_frame):
            for blocks, turns in CELLS:
                for group in (-1, -81, blocks * turns, blocks * turns + 1, 1000):
                    for frame in (0, -1, FRAMES):
                        self.assert_out_of_range("group", function, frame, group, blocks, turns)

    def test_then_the_frame(self):
        for function in (is_page_frame, page_frame):
            for frame in WRONG_FRAMES:
                for blocks, turns in ((1, 2), (9, 9)):
                    for group in (0, blocks * turns - 1):
                        self.assert_out_of_range("frame", function, frame, group, blocks, turns)


if __name__ == "__main__":
    unittest.main()
