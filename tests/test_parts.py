"""Parts (points 40 to 44)."""

import itertools
import random
import unittest

from mobileair.errors import BadText
from mobileair.packing import pack
from mobileair.parts import cut, read_part
from tests.helpers import ProgramTest, changed_rows, random_octets

PERCENT = chr(37)
SINGLE = "abcdefghijklmnopqrstuvwxyzABCDEFGHIJKLMNOPQRSTUVWXYZ0123456789 \n?!"
DOUBLE = {"^": 20, "{": 40, "}": 41, "\\": 47, "[": 60, "~": 61, "]": 62, "|": 64}


def plain(count):
    """A text of so many signs of one septet each."""
    return (SINGLE * (count // len(SINGLE) + 1))[:count]


def units_of(text):
    return [(27, DOUBLE[sign]) if sign in DOUBLE else (ord(sign),) for sign in text]


def shares_by_hand(text):
    """The septets of each part of a text that is cut."""
    shares = [[]]
    for unit in units_of(text):
        if len(shares[-1]) + len(unit) > 153:
            shares.append([])
        shares[-1].extend(unit)
    return shares


def parts_by_hand(text, mark):
    row = [septet for unit in units_of(text) for septet in unit]
    if len(row) <= 160:
        return [(0, len(row), *pack(row, 0))]
    shares = shares_by_hand(text)
    return [(1, len(share) + 7, 5, 0, 3, mark, len(shares), number + 1, *pack(share, 1))
            for number, share in enumerate(shares)]


def texts_with_a_double(at, count):
    """Texts of so many septets in which a sign of two septets begins at a septet."""
    return [plain(at) + sign + plain(count - at - 2) for sign in "[|"]


class CutTest(ProgramTest):
    def assert_cut(self, text, mark, counts):
        """The text is cut as by hand, into parts with these counts of septets."""
        parts = cut(text, mark)
        self.assertIs(type(parts), list)
        for part in parts:
            self.assert_octets(part)
        self.assertEqual(parts, parts_by_hand(text, mark))
        if len(counts) == 1:
            self.assertEqual([part[:2] for part in parts], [(0, counts[0])])
        else:
            self.assertEqual([part[1] - 7 for part in parts], counts)
            for part, count in zip(parts, counts):
                self.assertEqual(len(part), 8 + -(-(7 * count + 1) // 8))
        self.assertEqual(read_back(parts), [septet for unit in units_of(text) for septet in unit])

    def test_known_parts(self):
        self.assertEqual(cut("a", 7), [(0, 1, 97)])
        self.assertEqual(cut("", 7), [(0, 0)])
        self.assertEqual(cut("[", 255), [(0, 2, 27, 30)])
        self.assertEqual(cut("@$", 0), [(0, 2, 0, 1)])
        first, second = cut("a" * 161, 200)
        self.assertEqual(first[:9], (1, 160, 5, 0, 3, 200, 2, 1, 194))
        self.assertEqual(second, (1, 15, 5, 0, 3, 200, 2, 2, 194, 225, 112, 56, 28, 14, 135, 1))
        self.assertEqual(len(first), 8 + 134)

    def test_whole_texts(self):
        for count in (0, 1, 2, 7, 8, 9, 100, 152, 153, 154, 159, 160):
            self.assert_cut(plain(count), 3, [count])

    def test_several_parts(self):
        for count, counts in (
            (161, [153, 8]), (162, [153, 9]), (305, [153, 152]), (306, [153, 153]), (307, [153, 153, 1]),
            (458, [153, 153, 152]), (459, [153, 153, 153]), (460, [153, 153, 153, 1]),
            (611, [153, 153, 153, 152]), (612, [153, 153, 153, 153]),
        ):
            for mark in (0, 1, 128, 255):
                self.assert_cut(plain(count), mark, counts)

    def test_texts_that_cannot_be_cut(self):
        for count in (613, 614, 700, 765, 766, 1000, 5000):
            self.assert_bare(BadText, cut, plain(count), 0)
        for count in (307, 308, 400):
            self.assert_bare(BadText, cut, "[" * count, 0)

    def test_doubles_count_twice(self):
        self.assert_cut("[" * 80, 0, [160])
        self.assert_cut("[" * 79 + "ab", 0, [160])
        self.assert_cut("[" * 80 + "a", 0, [152, 9])
        self.assert_cut("[" * 81, 0, [152, 10])
        self.assert_cut("a" + "[" * 80, 0, [153, 8])
        self.assert_cut("[" * 304, 0, [152, 152, 152, 152])
        self.assert_bare(BadText, cut, "[" * 305, 0)
        self.assert_cut("a" + "[" * 304, 0, [153, 152, 152, 152])
        self.assert_cut("a" + "[" * 304 + "a", 0, [153, 152, 152, 153])
        self.assert_bare(BadText, cut, "a" + "[" * 304 + "aa", 0)

    def test_doubles_where_a_part_could_end(self):
        for at, counts in ((151, [153, 8]), (152, [152, 9]), (153, [153, 8])):
            for text in texts_with_a_double(at, 161):
                self.assert_cut(text, 9, counts)
        for at, counts in ((158, [160]), (152, [160])):
            for text in texts_with_a_double(at, 160):
                self.assert_cut(text, 9, counts)
        for text in texts_with_a_double(159, 161):
            self.assert_cut(text, 9, [153, 8])
        for text in texts_with_a_double(152, 305):
            self.assert_cut(text, 9, [152, 153])
        for text in texts_with_a_double(152, 306):
            self.assert_cut(text, 9, [152, 153, 1])
        for text in texts_with_a_double(304, 306):
            self.assert_cut(text, 9, [153, 153])
        for text in texts_with_a_double(305, 307):
            self.assert_cut(text, 9, [153, 152, 2])
        for text in texts_with_a_double(305, 612):
            self.assert_bare(BadText, cut, text, 9)
        for text in texts_with_a_double(305, 611):
            self.assert_cut(text, 9, [153, 152, 153, 153])
        for text in texts_with_a_double(458, 611):
            self.assert_cut(text, 9, [153, 153, 152, 153])
        for text in texts_with_a_double(458, 612):
            self.assert_bare(BadText, cut, text, 9)
        for text in texts_with_a_double(610, 612):
            self.assert_cut(text, 9, [153, 153, 153, 153])
        for text in texts_with_a_double(611, 613):
            self.assert_bare(BadText, cut, text, 9)

    def test_several_doubles_where_parts_could_end(self):
        self.assert_cut(plain(152) + "[" + plain(151) + "|" + plain(9), 0, [152, 153, 11])
        self.assert_cut(plain(152) + "[" + plain(150) + "|" + plain(9), 0, [152, 152, 11])
        self.assert_cut(plain(152) + "[" + plain(150) + "|" + plain(150) + "{" + plain(151), 0, [152, 152, 152, 153])
        self.assert_bare(BadText, cut, plain(152) + "[" + plain(150) + "|" + plain(150) + "{" + plain(152), 0)

    def test_any_text(self):
        chance = random.Random(42)
        for count in range(0, 520, 3):
            text = "".join(chance.choice((chance.choice("[]^~"), *"abcde")) for _ in range(count))
            if len(shares_by_hand(text)) <= 4:
                self.assertEqual(cut(text, count % 256), parts_by_hand(text, count % 256))
            else:
                self.assert_bare(BadText, cut, text, count % 256)

    def test_wrong_marks_come_first(self):
        for mark in (-1, -256, 256, 257, 1000):
            for text in ("", "a", "`", "a" + PERCENT, plain(161), plain(613), "`" * 700):
                self.assert_out_of_range("mark", cut, text, mark)

    def test_what_is_no_sign(self):
        for wrong in ("`", PERCENT, "\t", "\r", chr(127), "\u20ac"):
            for text in (wrong, plain(159) + wrong, plain(200) + wrong + plain(200), wrong + plain(700)):
                for mark in (0, 255):
                    self.assert_bare(BadText, cut, text, mark)

    def test_a_returned_list_is_free(self):
        cut(plain(200), 1).clear()
        self.assertEqual(len(cut(plain(200), 1)), 2)


def read_back(parts):
    return [septet for part in parts for septet in read_part(part)[3]]


def known(octets):
    """The part as which the octets are read, by building what they would have to be; or None."""
    if len(octets) >= 2 and octets[0] == 0 and octets[1] <= 160:
        start, count, head, front = 0, octets[1], (-1, 1, 1), octets[:2]
    elif len(octets) >= 8 and octets[0] == 1 and octets[2:5] == (5, 0, 3) and 8 <= octets[1] <= 160 \
            and octets[6] in (2, 3, 4) and octets[7] in range(1, octets[6] + 1):
        start, count, head, front = 1, octets[1] - 7, octets[5:8], octets[:8]
    else:
        return None
    number = int.from_bytes(bytes(octets[len(front):]), "little")
    row = [(number >> (start + 7 * at)) & 127 for at in range(count)]
    return (*head, row) if (*front, *pack(row, start)) == octets else None


class ReadPartTest(ProgramTest):
    def assert_read(self, octets):
        part = known(octets)
        if part is None:
            self.assert_bare(BadText, read_part, octets)
        else:
            self.assertEqual(read_part(octets), part)

    def test_known_parts(self):
        part = read_part((0, 1, 97))
        self.assertEqual(part, (-1, 1, 1, [97]))
        self.assertEqual([type(item) for item in part], [int, int, int, list])
        self.assertEqual(read_part((0, 0)), (-1, 1, 1, []))
        self.assertEqual(read_part((0, 2, 1, 1)), (-1, 1, 1, [1, 2]))
        self.assertEqual(read_part((1, 8, 5, 0, 3, 77, 2, 2, 254)), (77, 2, 2, [127]))
        self.assertEqual(read_part((1, 9, 5, 0, 3, 0, 4, 3, 2, 2)), (0, 4, 3, [1, 2]))

    def test_what_cut_gives(self):
        for count in (0, 1, 153, 160, 161, 306, 307, 459, 460, 612):
            for mark in (0, 5, 255):
                parts = cut(plain(count), mark)
                heads = [read_part(part)[:3] for part in parts]
                if len(parts) == 1:
                    self.assertEqual(heads, [(-1, 1, 1)])
                else:
                    self.assertEqual(heads, [(mark, len(parts), number + 1) for number in range(len(parts))])
                self.assertEqual(read_back(parts), list(map(ord, plain(count))))

    def test_any_septets(self):
        chance = random.Random(44)
        for count in range(161):
            row = [chance.choice((27, chance.randrange(128))) for _ in range(count)]
            self.assertEqual(read_part((0, count, *pack(row, 0))), (-1, 1, 1, row))
        for count in range(1, 154):
            row = [chance.choice((27, chance.randrange(128))) for _ in range(count)]
            for many in (2, 3, 4):
                for number in range(1, many + 1):
                    mark = chance.randrange(256)
                    octets = (1, count + 7, 5, 0, 3, mark, many, number, *pack(row, 1))
                    self.assertEqual(read_part(octets), (mark, many, number, row))

    def test_counts_that_are_wrong(self):
        for count in range(161, 256):
            self.assert_bare(BadText, read_part, (0, count, *pack([97] * count, 0)))
        for count in (*range(154, 170), 248):
            self.assert_bare(BadText, read_part, (1, count + 7, 5, 0, 3, 1, 2, 1, *pack([97] * count, 1)))
        self.assert_bare(BadText, read_part, (1, 7, 5, 0, 3, 1, 2, 1, 0))
        self.assert_bare(BadText, read_part, (1, 7, 5, 0, 3, 1, 2, 1))
        for short in range(7):
            self.assert_bare(BadText, read_part, (1, short, 5, 0, 3, 1, 2, 1))

    def test_heads_that_are_wrong(self):
        rest = pack([1, 2, 3], 1)
        right = (1, 10, 5, 0, 3, 9, 3, 2)
        self.assertEqual(read_part(right + rest), (9, 3, 2, [1, 2, 3]))
        # The head takes as much room as seven septets, so behind a 0 it is read as septets.
        self.assertEqual(read_part((0,) + right[1:] + rest)[:3], (-1, 1, 1))
        for place, fine in ((0, {0, 1}), (1, {10}), (2, {5}), (3, {0}), (4, {3}), (6, {2, 3, 4}), (7, {1, 2, 3})):
            for octet in range(256):
                if octet not in fine:
                    self.assert_bare(BadText, read_part, right[:place] + (octet,) + right[place + 1:] + rest)
        for mark in range(256):
            self.assertEqual(read_part(right[:5] + (mark,) + right[6:] + rest), (mark, 3, 2, [1, 2, 3]))
        for many, number in itertools.product(range(10), repeat=2):
            octets = right[:6] + (many, number) + rest
            if 2 <= many <= 4 and 1 <= number <= many:
                self.assertEqual(read_part(octets), (9, many, number, [1, 2, 3]))
            else:
                self.assert_bare(BadText, read_part, octets)

    def test_too_few_and_too_many_octets(self):
        parts = [(0, 0), *cut("a", 0), *cut(plain(8), 0), *cut(plain(160), 0), *cut(plain(161), 0), *cut(plain(320), 4)]
        for part in parts:
            for end in range(len(part)):
                self.assert_bare(BadText, read_part, part[:end])
            for more in ((0,), (1,), (255,), (0, 0), (0,) * 9):
                self.assert_bare(BadText, read_part, part + more)

    def test_bits_that_no_septet_takes(self):
        for count in range(1, 161):
            part = (0, count, *pack([0] * count, 0))
            for bit in range(7 * count, 8 * (len(part) - 2)):
                self.assert_bare(BadText, read_part, set_bit(part, 16 + bit))
        for count in range(1, 154):
            part = (1, count + 7, 5, 0, 3, 1, 2, 1, *pack([0] * count, 1))
            self.assertEqual(read_part(part), (1, 2, 1, [0] * count))
            self.assert_bare(BadText, read_part, set_bit(part, 64))
            for bit in range(1 + 7 * count, 8 * (len(part) - 8)):
                self.assert_bare(BadText, read_part, set_bit(part, 64 + bit))

    def test_changed_parts(self):
        for part in [*cut("", 0), *cut("a", 0), *cut("hello[", 0), *cut(plain(161), 77)[1:], *cut(plain(470), 0)[3:]]:
            self.assertIsNotNone(known(part))
            for octets in changed_rows(part):
                self.assert_read(octets)

    def test_any_octets(self):
        self.assert_bare(BadText, read_part, ())
        for octet in range(256):
            self.assert_read((octet,))
            self.assert_read((0, octet))
            self.assert_read((0, 1, octet))
            self.assert_read((1, 8, 5, 0, 3, 6, 2, 2, octet))
        chance = random.Random(40)
        for count in range(400):
            self.assert_read(random_octets(chance, count % 20))
            self.assert_read((chance.randrange(2), chance.randrange(20), *random_octets(chance, count % 20)))

    def test_more_than_an_octet_is_no_mark(self):
        self.assert_bare(BadText, read_part, (1, 8, 5, 0, 3, 256, 2, 2, 254))
        self.assert_bare(BadText, read_part, (1, 8, 5, 0, 3, -1, 2, 2, 254))

    def test_a_returned_list_is_free(self):
        read_part((0, 1, 97))[3].clear()
        self.assertEqual(read_part((0, 1, 97)), (-1, 1, 1, [97]))


def set_bit(octets, bit):
    """The octets with a bit, counted from the lowest of the first one, set to 1."""
    at = bit // 8
    return octets[:at] + (octets[at] | (1 << (bit % 8)),) + octets[at + 1:]


if __name__ == "__main__":
    unittest.main()
