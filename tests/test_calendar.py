"""The calendar of frames (points 21 to 26)."""

import unittest

from mobileair.calendar import (
    FRAMES, common_block, control_slot, counters, frame_of, frame_of_reduced, frames_between, reduced, traffic_slot,
)
from tests.helpers import ProgramTest

WRONG_FRAMES = (-1, -2, -2715648, 2715648, 2715649, 10 ** 9)
SOME_TURNS = (0, 1, 2, 1000, 2046, 2047)

CONTROL = (
    ["frequency", "sync"] + ["broadcast"] * 4 + ["common"] * 4
    + (["frequency", "sync"] + ["common"] * 8) * 4
    + ["idle"]
)
BLOCKS = (
    [None] * 6 + [0] * 4
    + [None] * 2 + [1] * 4 + [2] * 4
    + [None] * 2 + [3] * 4 + [4] * 4
    + [None] * 2 + [5] * 4 + [6] * 4
    + [None] * 2 + [7] * 4 + [8] * 4
    + [None]
)


def some_frames():
    """All frames of some turns of 1326, the first and the last ones among them."""
    return [1326 * turn + at for turn in SOME_TURNS for at in range(1326)]


class CountersTest(ProgramTest):
    def test_frames(self):
        self.assertEqual(FRAMES, 2715648)
        self.assertEqual(FRAMES, 2048 * 26 * 51)

    def test_known_counters(self):
        self.assertEqual(counters(0), (0, 0, 0))
        self.assertEqual(counters(FRAMES - 1), (2047, 25, 50))
        self.assertEqual(counters(25), (0, 25, 25))
        self.assertEqual(counters(26), (0, 0, 26))
        self.assertEqual(counters(51), (0, 25, 0))
        self.assertEqual(counters(1325), (0, 25, 50))
        self.assertEqual(counters(1326), (1, 0, 0))
        self.assertIs(type(counters(5)), tuple)

    def test_the_example(self):
        self.assertEqual(frame_of(0, 25, 0), 51)

    def test_there_and_back_for_all_frames(self):
        for frame in range(FRAMES):
            t1, t2, t3 = counters(frame)
            if t1 != frame // 1326 or t2 != frame % 26 or t3 != frame % 51 or frame_of(t1, t2, t3) != frame:
                self.fail(frame)

    def test_each_counters_belong_to_one_frame(self):
        for t1 in SOME_TURNS:
            found = {frame_of(t1, t2, t3) for t2 in range(26) for t3 in range(51)}
            self.assertEqual(found, set(range(1326 * t1, 1326 * (t1 + 1))))

    def test_wrong_counters(self):
        for t1 in (-1, 2048, -2048, 5000):
            for t2, t3 in ((0, 0), (25, 50), (-1, 0), (26, 51), (0, 51)):
                self.assert_out_of_range("t1", frame_of, t1, t2, t3)
        for t2 in (-1, 26, -26, 51):
            for t1, t3 in ((0, 0), (2047, 50), (0, -1), (2047, 51)):
                self.assert_out_of_range("t2", frame_of, t1, t2, t3)
        for t3 in (-1, 51, -51, 100):
            for t1, t2 in ((0, 0), (2047, 25)):
                self.assert_out_of_range("t3", frame_of, t1, t2, t3)

    def test_wrong_frames(self):
        for frame in WRONG_FRAMES:
            for function in (counters, reduced, control_slot, common_block, traffic_slot):
                self.assert_out_of_range("frame", function, frame)


class ReducedTest(ProgramTest):
    def test_known_numbers(self):
        self.assertEqual(reduced(1), 8)
        self.assertEqual(reduced(11), 11 * 8 + 1)
        self.assertEqual(reduced(41), 15 * 8 + 4)
        self.assertEqual(reduced(1326 + 1), 256 + 8)
        self.assertIsNone(reduced(0))
        self.assertIsNone(reduced(50))

    def test_one_frame_in_ten_has_one(self):
        for frame in some_frames():
            t1, t2, t3 = frame // 1326, frame % 26, frame % 51
            if t3 in (1, 11, 21, 31, 41):
                number = t1 * 256 + t2 * 8 + (t3 - 1) // 10
                self.assertEqual(reduced(frame), number)
                self.assertEqual(frame_of_reduced(number), frame)
            else:
                self.assertIsNone(reduced(frame))

    def test_all_numbers_that_belong_to_a_frame(self):
        count = 0
        for t1 in range(2048):
            for t2 in range(26):
                for tens in range(5):
                    number = t1 * 256 + t2 * 8 + tens
                    frame = frame_of_reduced(number)
                    count += 1
                    if (frame // 1326, frame % 26, frame % 51) != (t1, t2, 10 * tens + 1):
                        self.fail(number)
        self.assertEqual(count, FRAMES // 1326 * 130)

    def test_numbers_that_belong_to_no_frame(self):
        for number in (-1, -2, -8, -256, -524288, 524288, 524289, 524296, 2 ** 30):
            self.assert_out_of_range("reduced", frame_of_reduced, number)
        for t1 in SOME_TURNS:
            for rest in range(256):
                if rest // 8 > 25 or rest % 8 > 4:
                    self.assert_out_of_range("reduced", frame_of_reduced, 256 * t1 + rest)


class SlotsTest(ProgramTest):
    def test_control_slot_for_each_t3(self):
        self.assertEqual(len(CONTROL), 51)
        for frame in some_frames():
            self.assertEqual(control_slot(frame), CONTROL[frame % 51])

    def test_common_block_for_each_t3(self):
        self.assertEqual(len(BLOCKS), 51)
        for frame in some_frames():
            self.assertEqual(common_block(frame), BLOCKS[frame % 51])

    def test_the_example(self):
        self.assertEqual([common_block(9), common_block(10), common_block(12)], [0, None, 1])

    def test_traffic_slot_for_each_t2(self):
        wanted = ["speech"] * 12 + ["slow"] + ["speech"] * 12 + ["idle"]
        for frame in some_frames():
            self.assertEqual(traffic_slot(frame), wanted[frame % 26])


class StepsTest(ProgramTest):
    def test_steps(self):
        self.assertEqual(frames_between(0, 0), 0)
        self.assertEqual(frames_between(3, 10), 7)
        self.assertEqual(frames_between(0, FRAMES - 1), FRAMES - 1)

    def test_over_the_end_of_the_calendar(self):
        self.assertEqual(frames_between(FRAMES - 1, 0), 1)
        self.assertEqual(frames_between(10, 3), FRAMES - 7)
        self.assertEqual(frames_between(FRAMES - 1, FRAMES - 2), FRAMES - 1)
        self.assertEqual(frames_between(FRAMES - 3, 4), 7)
        self.assertEqual(frames_between(FRAMES - 1, FRAMES - 1), 0)

    def test_wrong_frames(self):
        for frame in WRONG_FRAMES:
            self.assert_out_of_range("frame", frames_between, frame, 0)
            self.assert_out_of_range("frame", frames_between, 0, frame)
            self.assert_out_of_range("frame", frames_between, frame, frame)


if __name__ == "__main__":
    unittest.main()
