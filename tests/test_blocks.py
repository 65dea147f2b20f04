"""Blocks of frames (points 51 and 52)."""

import itertools
import random
import unittest

from mobileair.blocks import FILL, pack_frame, unpack_frame
from tests.helpers import ProgramTest, random_octets

PAIRS = list(itertools.product(range(8), repeat=2))
SIZES = range(1, 21)


def some_octets(count):
    chance = random.Random(count)
    return [(0,) * count, (43,) * count, (255,) * count, tuple(range(count)), random_octets(chance, count)]


def all_frames():
    """Each kind of frame, with octets of each count and all s, r and more."""
    frames = [("accept",)] + [("ready", r) for r in range(8)]
    for count in SIZES:
        frames.extend(("setup", octets) for octets in some_octets(count))
        for (s, r), more in itertools.product(PAIRS, (False, True)):
            frames.append(("info", s, r, more, some_octets(count)[(s + r) % 5]))
    return frames


def by_hand(frame):
    """The block as the list in point 52 builds it."""
    octets = ()
    more = False
    if frame[0] == "setup":
        first, second, octets = 3, 63, frame[1]
    elif frame[0] == "accept":
        first, second = 1, 115
    elif frame[0] == "info":
        first, second, more, octets = 3, 32 * frame[2] + 2 * frame[1], frame[3], frame[4]
    else:
        first, second = 1, 32 * frame[1] + 1
    block = [first, second, 4 * len(octets) + 1 + 2 * more, *octets]
    while len(block) < 23:
        block.append(43)
    return tuple(block)


def known(block):
    """The frame that the block holds, from its octets one by one, or None."""
    count, low = divmod(block[2], 4)
    octets, rest = block[3:3 + count], block[3 + count:]
    if low not in (1, 3) or count > 20 or set(rest) - {43}:
        return None
    if block[0] == 1 and count == 0 and low == 1:
        if block[1] == 115:
            return ("accept",)
        return ("ready", block[1] >> 5) if block[1] & 31 == 1 else None
    if block[0] == 3 and count > 0:
        if block[1] == 63:
            return ("setup", octets) if low == 1 else None
        if block[1] & 17 == 0:
            return ("info", (block[1] >> 1) & 7, block[1] >> 5, low == 3, octets)
    return None


class BlocksTest(ProgramTest):
    def test_fill(self):
        self.assertEqual(FILL, (43,) * 23)
        self.assertIs(type(FILL), tuple)
        self.assertIsNone(unpack_frame(FILL))
        self.assertIsNone(unpack_frame((43,) * 23))

    def test_known_blocks(self):
        self.assertEqual(pack_frame(("info", 2, 1, True, (7, 8)))[:6], (3, 36, 11, 7, 8, 43))
        self.assertEqual(pack_frame(("setup", (9,))), (3, 63, 5, 9) + (43,) * 19)
        self.assertEqual(pack_frame(("setup", (1,) * 20)), (3, 63, 81) + (1,) * 20)
        self.assertEqual(pack_frame(("accept",)), (1, 115, 1) + (43,) * 20)
        self.assertEqual(pack_frame(("ready", 0)), (1, 1, 1) + (43,) * 20)
        self.assertEqual(pack_frame(("ready", 7)), (1, 225, 1) + (43,) * 20)
        self.assertEqual(pack_frame(("info", 7, 0, False, (43,))), (3, 14, 5, 43) + (43,) * 19)
        self.assertEqual(pack_frame(("info", 0, 7, True, (0,) * 20)), (3, 224, 83) + (0,) * 20)

    def test_there_and_back(self):
        for frame in all_frames():
            block = pack_frame(frame)
            self.assert_octets(block)
            self.assertEqual(len(block), 23)
            self.assertEqual(block, by_hand(frame))
            found = unpack_frame(block)
            self.assertEqual(found, frame)
            self.assertEqual([type(part) for part in found], [type(part) for part in frame])

    def test_different_frames_have_different_blocks(self):
        frames = set(all_frames())
        self.assertEqual(len({pack_frame(frame) for frame in frames}), len(frames))

    def test_each_octet_of_the_head_changed(self):
        frames = [("accept",), ("ready", 0), ("ready", 5), ("setup", (1,)), ("setup", (2,) * 20),
                  ("setup", (43,) * 10), ("info", 0, 0, False, (1, 2)), ("info", 7, 7, True, (43,) * 20),
                  ("info", 3, 6, True, (5,) * 11), ("info", 7, 1, False, (43,))]
        for frame in frames:
            block = pack_frame(frame)
            for place in range(3):
                for octet in range(256):
                    changed = block[:place] + (octet,) + block[place + 1:]
                    self.assertEqual(unpack_frame(changed), known(changed), changed)

    def test_first_octets(self):
        for first in range(256):
            if first not in (1, 3):
                for frame in (("accept",), ("ready", 2), ("setup", (1,)), ("info", 1, 2, False, (3,))):
                    self.assertIsNone(unpack_frame((first,) + pack_frame(frame)[1:]))
        self.assertIsNone(unpack_frame((3, 115, 1) + (43,) * 20))
        self.assertIsNone(unpack_frame((3, 1, 1) + (43,) * 20))
        self.assertIsNone(unpack_frame((1, 63, 5, 9) + (43,) * 19))
        self.assertIsNone(unpack_frame((1, 36, 5, 9) + (43,) * 19))

    def test_second_octets(self):
        for second in range(256):
            answer = unpack_frame((1, second, 1) + (43,) * 20)
            if second == 115:
                self.assertEqual(answer, ("accept",))
            elif second % 32 == 1:
                self.assertEqual(answer, ("ready", second // 32))
            else:
                self.assertIsNone(answer)
            command = unpack_frame((3, second, 5, 9) + (43,) * 19)
            if second == 63:
                self.assertEqual(command, ("setup", (9,)))
            elif second % 32 in range(0, 16, 2):
                self.assertEqual(command, ("info", second % 32 // 2, second // 32, False, (9,)))
            else:
                self.assertIsNone(command)

    def test_counts(self):
        for octet in range(256):
            count, low = divmod(octet, 4)
            rest = (7,) * min(count, 20) + (43,) * (20 - count)
            fine = low in (1, 3) and 1 <= count <= 20
            info = ("info", 2, 1, low == 3, (7,) * count) if fine else None
            self.assertEqual(unpack_frame((3, 36, octet) + rest), info)
            setup = ("setup", (7,) * count) if fine and low == 1 else None
            self.assertEqual(unpack_frame((3, 63, octet) + rest), setup)
            self.assertEqual(unpack_frame((1, 115, octet) + rest), ("accept",) if octet == 1 else None)
            self.assertEqual(unpack_frame((1, 33, octet) + rest), ("ready", 1) if octet == 1 else None)

    def test_octets_behind_the_frame(self):
        for frame in [("accept",), ("ready", 3)] + [("setup", (1,) * count) for count in SIZES] + \
                [("info", 1, 2, bool(count % 2), (1,) * count) for count in SIZES]:
            block = pack_frame(frame)
            begin = 3 + (len(frame[-1]) if isinstance(frame[-1], tuple) else 0)
            for place in range(begin, 23):
                for octet in (0, 1, 42, 44, 63, 255):
                    self.assertIsNone(unpack_frame(block[:place] + (octet,) + block[place + 1:]))

    def test_any_block(self):
        chance = random.Random(52)
        for _ in range(20000):
            count = chance.randrange(22)
            block = (chance.choice((1, 3)), chance.randrange(256), 4 * count + chance.randrange(4))
            block += random_octets(chance, min(count, 20)) + (43,) * (20 - count)
            self.assertEqual(unpack_frame(block), known(block))
        for _ in range(2000):
            block = random_octets(chance, 23)
            self.assertEqual(unpack_frame(block), known(block))

    def test_what_is_no_block(self):
        block = pack_frame(("setup", (1, 2)))
        for row in ((), (3,), (3, 63), block[:22], block + (43,), (3, 63, 5, 256) + (43,) * 19,
                    (3, 63, 5, -1) + (43,) * 19):
            self.assertIsNone(unpack_frame(row))


if __name__ == "__main__":
    unittest.main()
