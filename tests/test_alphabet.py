"""Signs and septets (points 37 and 38)."""

import random
import re
import unittest

from mobileair.alphabet import septets, text_of
from mobileair.errors import BadText
from tests.helpers import ProgramTest

SECONDS = {"^": 20, "{": 40, "}": 41, "\\": 47, "[": 60, "~": 61, "]": 62, "|": 64}
MOVED = {"@": 0, "$": 2, "_": 17}
PERCENT, GRAVE = chr(37), chr(96)
SIGNS = ["\n"] + [chr(code) for code in range(32, 127) if code not in (37, 96)]


def by_hand(sign):
    if sign in SECONDS:
        return [27, SECONDS[sign]]
    return [MOVED.get(sign, ord(sign))]


def read_by_hand(row):
    """Read the septets as characters whose codes they are, with pairs behind a 27 as one."""
    signs = {tuple(by_hand(sign)): sign for sign in SIGNS}
    units = re.findall("\u001b.|[^\u001b]|\u001b", "".join(map(chr, row)), re.DOTALL)
    return "".join(signs.get(tuple(map(ord, unit)), "?") for unit in units)


class SeptetsTest(ProgramTest):
    def test_known_septets(self):
        self.assertEqual(septets("a[@"), [97, 27, 60, 0])
        self.assertEqual(septets(""), [])
        self.assertEqual(septets("@$_\n"), [0, 2, 17, 10])
        self.assertEqual(septets("^{}\\[~]|"), [27, 20, 27, 40, 27, 41, 27, 47, 27, 60, 27, 61, 27, 62, 27, 64])
        self.assertEqual(septets("\"'#&/09:?AZaz "), [34, 39, 35, 38, 47, 48, 57, 58, 63, 65, 90, 97, 122, 32])

    def test_each_sign(self):
        self.assertEqual(len(SIGNS), 94)
        for sign in SIGNS:
            row = septets(sign)
            self.assertIs(type(row), list)
            self.assertEqual(row, by_hand(sign))
            self.assertEqual(text_of(row), sign)

    def test_there_and_back(self):
        whole = "".join(SIGNS)
        self.assertEqual(text_of(septets(whole)), whole)
        self.assertEqual(text_of(septets(whole[::-1])), whole[::-1])
        chance = random.Random(37)
        for count in range(200):
            text = "".join(chance.choice(SIGNS) for _ in range(count))
            self.assertEqual(septets(text), [septet for sign in text for septet in by_hand(sign)])
            self.assertEqual(text_of(septets(text)), text)

    def test_what_is_no_sign(self):
        wrong = [chr(code) for code in range(400) if chr(code) not in SIGNS] + ["\u20ac", "\u0394", "\uff21"]
        self.assertIn(PERCENT, wrong)
        self.assertIn(GRAVE, wrong)
        for character in wrong:
            for text in (character, "ab" + character, character + "ab", "a" + character + "b", character * 2):
                self.assert_bare(BadText, septets, text)

    def test_a_returned_row_is_free(self):
        septets("a[@").clear()
        septets("@").append(5)
        septets("[").append(5)
        self.assertEqual(septets("a[@"), [97, 27, 60, 0])


class TextTest(ProgramTest):
    def test_known_texts(self):
        self.assertEqual(text_of([]), "")
        self.assertEqual(text_of([97, 27, 60, 0]), "a[@")
        self.assertEqual(text_of([1, 64, 36, 95, 91, 126, 127]), "???????")
        self.assertEqual(text_of([27]), "?")
        self.assertEqual(text_of([97, 27]), "a?")
        self.assertEqual(text_of([27, 97, 97]), "?a")
        self.assertEqual(text_of([27, 27]), "?")
        self.assertEqual(text_of([27, 27, 60]), "?<")
        self.assertEqual(text_of([27, 27, 27]), "??")
        self.assertEqual(text_of([27, 27, 27, 60]), "?[")
        self.assertEqual(text_of([27, 60, 60]), "[<")
        self.assertEqual(text_of([27, 0]), "?")

    def test_each_single_septet(self):
        singles = {by_hand(sign)[0]: sign for sign in SIGNS if sign not in SECONDS}
        self.assertEqual(len(singles), 86)
        for septet in range(128):
            self.assertEqual(text_of([septet]), singles.get(septet, "?"))
            self.assertEqual(text_of([97, septet]), "a" + singles.get(septet, "?"))

    def test_each_septet_behind_27(self):
        signs = {septet: sign for sign, septet in SECONDS.items()}
        for septet in range(128):
            self.assertEqual(text_of([27, septet]), signs.get(septet, "?"))
            self.assertEqual(text_of([98, 27, septet, 97]), "b" + signs.get(septet, "?") + "a")

    def test_any_septets(self):
        chance = random.Random(38)
        for count in range(300):
            row = [chance.choice((27, 60, chance.randrange(128))) for _ in range(count)]
            kept = list(row)
            self.assertEqual(text_of(row), read_by_hand(row))
            self.assertEqual(row, kept)
            self.assertIs(type(text_of(row)), str)


if __name__ == "__main__":
    unittest.main()
