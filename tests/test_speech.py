"""Speech (points 16 and 17)."""

import random
import unittest

from mobileair.errors import BadBits
from mobileair.speech import code_speech, read_speech
from tests.helpers import (
    SPEECH_POWERS, ProgramTest, plain_code, plain_parity, random_bits, some_places, step_nearest, turned,
)


def row_of(d, check):
    u = [None] * 189
    for k in range(91):
        u[k] = d[2 * k]
        u[184 - k] = d[2 * k + 1]
    u[91:94] = check
    u[185:189] = [0, 0, 0, 0]
    return u


def coded_frame(d, check):
    c = plain_code(row_of(d, check)) + [None] * 78
    for k in range(78):
        c[378 + k] = d[182 + k]
    return c


def right_check(d):
    return plain_parity(d[:50], SPEECH_POWERS)


def laid_out(c):
    halves = [[None] * 57 for _ in range(8)]
    for k in range(456):
        halves[k % 8][(49 * k) % 57] = c[k]
    return halves


def frames():
    chance = random.Random(41)
    return [[0] * 260, [1] * 260, [0, 1] * 130] + [random_bits(chance, 260) for _ in range(6)]


class CodeSpeechTest(ProgramTest):
    def test_eight_halves_of_57_bits(self):
        for d in frames():
            halves = code_speech(d)
            self.assertIs(type(halves), list)
            self.assertEqual(len(halves), 8)
            for half in halves:
                self.assert_bits(half, 57)

    def test_each_bit_lies_at_its_place(self):
        self.assertEqual(len({(k % 8, (49 * k) % 57) for k in range(456)}), 456)
        for d in frames():
            c = coded_frame(d, right_check(d))
            halves = code_speech(d)
            for k in range(456):
                self.assertEqual(halves[k % 8][(49 * k) % 57], c[k], k)

    def test_each_single_bit(self):
        for place in range(260):
            d = turned([0] * 260, [place])
            self.assertEqual(code_speech(d), laid_out(coded_frame(d, right_check(d))))

    def test_wrong_counts(self):
        for count in (0, 1, 50, 259, 261, 456):
            self.assert_bare(BadBits, code_speech, [0] * count)

    def test_the_bits_stay_and_the_halves_are_free(self):
        d = frames()[-1]
        kept = list(d)
        halves = code_speech(d)
        halves[0][0] = 9
        halves.pop()
        self.assertEqual(d, kept)
        self.assertEqual(code_speech(d), laid_out(coded_frame(d, right_check(d))))


class ReadSpeechTest(ProgramTest):
    def test_what_was_coded(self):
        for d in frames():
            answer = read_speech(code_speech(d))
            self.assertEqual(answer, (d, 0, True))
            self.assertEqual([type(part) for part in answer], [list, int, bool])

    def test_flips_among_the_coded_bits_are_put_right(self):
        for d in frames():
            c = coded_frame(d, right_check(d))
            for flips in (1, 2, 3):
                for places in some_places(flips, 378, flips, 4):
                    self.assertEqual(read_speech(laid_out(turned(c, places))), (d, flips, True))

    def test_each_single_flip(self):
        d = frames()[-1]
        c = coded_frame(d, right_check(d))
        for k in range(456):
            wanted = (d, 1, True) if k < 378 else (turned(d, [182 + k - 378]), 0, True)
            self.assertEqual(read_speech(laid_out(turned(c, [k]))), wanted, k)

    def test_flips_among_the_others_come_out_as_they_are(self):
        for d in frames():
            c = coded_frame(d, right_check(d))
            every = turned(c, range(378, 456))
            self.assertEqual(read_speech(laid_out(every)), (turned(d, range(182, 260)), 0, True))
            mixed = turned(c, [0, 377, 378, 455])
            self.assertEqual(read_speech(laid_out(mixed)), (turned(d, [182, 259]), 2, True))

    def test_a_wrong_parity(self):
        for d in frames():
            for places in ([0], [1], [2], [0, 1, 2]):
                c = coded_frame(d, turned(right_check(d), places))
                self.assertEqual(read_speech(laid_out(c)), (d, 0, False))

    def test_only_the_first_fifty_bits_are_checked(self):
        d = frames()[-1]
        for place in range(182):
            c = coded_frame(turned(d, [place]), right_check(d))
            self.assertEqual(read_speech(laid_out(c)), (turned(d, [place]), 0, place >= 50))

    def test_any_other_bits(self):
        chance = random.Random(42)
        for _ in range(6):
            c = random_bits(chance, 456)
            u, cost = step_nearest(c[:378])
            d = [u[at // 2] if at % 2 == 0 else u[184 - at // 2] for at in range(182)] + c[378:]
            halves = laid_out(c)
            kept = [list(half) for half in halves]
            self.assertEqual(read_speech(halves), (d, cost, right_check(d) == u[91:94]))
            self.assertEqual(halves, kept)


if __name__ == "__main__":
    unittest.main()
