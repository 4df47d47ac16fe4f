"""[40]: letters and bytes of pictures."""

import binascii
import copy
import inspect
import random
import unittest
import zlib
from fractions import Fraction

from tests.some_sayings import is_so, random_poly, random_saying
from tests.test_conventions import ODD
from tests.test_papers import balanced
from tests.test_sayings import NO_SAYING
from tests.test_sheets import poly
from twoletters.errors import InvalidCount, InvalidPoint, InvalidSaying, TooMany
from twoletters.pictures import letters, picture_bytes
from twoletters.reader import read_saying
from twoletters.sayings import is_saying
from twoletters.truths import truth_at

ORIGIN, CORNER = ((0, 1), (0, 1)), ((1, 1), (1, 1))
WINDOW = (((-2, 1), (-2, 1)), ((2, 1), (2, 1)))
INSIDE = read_saying("x^2 + y^2 < 1")
NO_POINT = ODD + [(), ((0, 1),), ((0, 1), (0, 1), (0, 1)), [(0, 1), (0, 1)], ((0, 2), (0, 1)), ((0, 1), (2, 4)), ((0, 1), 0), (0, 0), ((True, 1), (0, 1)), ((0, 1), (0, True)),
                  (((-2, 0, 1), 1), (0, 1)), ((0, 1), ((-2, 0, 1), 1)), ((0, 1), [0, 1]), ((0, 1), (0, -1))]


def pair(one, other):
    return ((one.numerator, one.denominator), (other.numerator, other.denominator))


def middle(low, high, many, row, column):
    x = Fraction(*low[0]) + (2 * column + 1) * (Fraction(*high[0]) - Fraction(*low[0])) / (2 * many)
    y = Fraction(*high[1]) - (2 * row + 1) * (Fraction(*high[1]) - Fraction(*low[1])) / (2 * many)
    return x, y


def picture(numbers):
    """The width, and the rows of greys; the form, the check numbers and the sum number looked at."""
    data = bytes(numbers)
    assert data[:8] == b"\x89PNG\r\n\x1a\n"
    data = data[8:]
    chunks = []
    while data:
        size = int.from_bytes(data[:4], "big")
        name, inner, check = data[4:8], data[8:8 + size], data[8 + size:12 + size]
        assert int.from_bytes(check, "big") == binascii.crc32(name + inner)
        chunks.append((name, inner))
        data = data[12 + size:]
    assert [name for name, _ in chunks] == [b"IHDR", b"IDAT", b"IEND"]
    header, inner, end = [inner for _, inner in chunks]
    many = int.from_bytes(header[:4], "big")
    assert header == many.to_bytes(4, "big") * 2 + bytes([8, 0, 0, 0, 0]) and end == b""
    rows = zlib.decompress(inner)
    # Just one stretch of bytes, as they stand.
    assert inner == bytes([120, 1, 1]) + len(rows).to_bytes(2, "little") + (65535 - len(rows)).to_bytes(2, "little") + rows + zlib.adler32(rows).to_bytes(4, "big")
    assert len(rows) == many * (many + 1)
    found = [rows[k * (many + 1):(k + 1) * (many + 1)] for k in range(many)]
    assert all(row[0] == 0 for row in found)
    return many, [list(row[1:]) for row in found]


class LettersTest(unittest.TestCase):
    def test_rows_from_above(self):
        self.assertEqual(letters(read_saying("y > x"), ORIGIN, CORNER, 3), ("##.", "#..", "..."))
        self.assertEqual(letters(read_saying("y >= x"), ORIGIN, CORNER, 3), ("###", "##.", "#.."))
        self.assertEqual(letters(read_saying("y > 1"), *WINDOW, 4), ("####", "....", "....", "...."))
        self.assertEqual(letters(read_saying("x > 1"), *WINDOW, 4), ("...#",) * 4)
        self.assertEqual(letters(INSIDE, *WINDOW, 1), ("#",))
        self.assertEqual(letters(INSIDE, *WINDOW, 5), (".....", "..#..", ".###.", "..#..", "....."))
        self.assertEqual(letters(("true",), *WINDOW, 2), ("##", "##"))
        self.assertEqual(letters(("false",), *WINDOW, 2), ("..", ".."))

    def test_middles_on_a_curve(self):
        # The middles are - 4/3, 0, 4/3 each way, and - 1, 1 for two.
        self.assertEqual(letters(read_saying("x^2 + y^2 = 2"), *WINDOW, 2), ("##", "##"))
        self.assertEqual(letters(read_saying("x^2 + y^2 < 2"), *WINDOW, 2), ("..", ".."))
        self.assertEqual(letters(read_saying("9*x^2 + 9*y^2 = 16"), *WINDOW, 3), (".#.", "#.#", ".#."))
        self.assertEqual(letters(read_saying("x*y = 0"), *WINDOW, 3), (".#.", "###", ".#."))

    def test_windows_of_unlike_sides(self):
        low, high = ((-1, 2), (-7, 3)), ((5, 6), (-1, 4))
        for many in (1, 2, 3, 7, 48):
            for saying in (INSIDE, read_saying("3*y > 2*x - 1"), read_saying("2*x*y + x > -1")):
                rows = letters(saying, low, high, many)
                self.assertEqual((len(rows), {len(row) for row in rows}), (many, {many}))
                for i in range(many):
                    for j in range(many):
                        self.assertEqual(rows[i][j] == "#", is_so(saying, *middle(low, high, many, i, j)))

    def test_simple_ones_by_luck(self):
        luck = random.Random(401)
        done = 0
        while done < 60:
            saying = random_saying(luck, 4, [random_poly(luck) for _ in range(3)], quantifiers=False)
            corners = [Fraction(luck.randint(-20, 20), luck.randint(1, 7)) for _ in range(4)]
            if not is_saying(saying) or corners[0] >= corners[2] or corners[1] >= corners[3]:
                continue
            low, high, many = pair(*corners[:2]), pair(*corners[2:]), luck.randint(1, 9)
            rows = letters(saying, low, high, many)
            self.assertEqual(rows, tuple("".join("#" if is_so(saying, *middle(low, high, many, i, j)) else "." for j in range(many)) for i in range(many)), saying)
            done += 1

    def test_with_all_and_some(self):
        for words in ("some y: x^2 + y^2 < 1", "some x: x^2 + y^2 <= 1 & y > x", "y < x & all x: x^2 >= y", "[some y: y^2 = x] | some x: x^2 + 1 = y", "some y: [y^2 = 2 & y < x]", "all x: some y: x < y",
                      "some x: x^2 = y | some y: [x = y & y^2 = 2]", "[some x: [x^2 = 2 & x > y]] & x != y"):
            saying = read_saying(words)
            low, high = ((-2, 1), (-3, 2)), ((2, 1), (5, 2))
            rows = letters(saying, low, high, 8)
            for i in range(8):
                for j in range(8):
                    self.assertEqual(rows[i][j] == "#", truth_at(saying, pair(*middle(low, high, 8, i, j))), words)

    def test_on_ends_of_forms(self):
        self.assertEqual(letters(read_saying("some y: x^2 + y^2 <= 1"), ((-3, 1), (-3, 1)), ((3, 1), (3, 1)), 3), (".#.",) * 3)
        self.assertEqual(letters(read_saying("some y: x^2 + y^2 <= 4"), ((-3, 1), (-3, 1)), ((3, 1), (3, 1)), 3), ("###",) * 3)
        self.assertEqual(letters(read_saying("some x: x^2 + y^2 < 4"), ((-3, 1), (-3, 1)), ((3, 1), (3, 1)), 3), ("...", "###", "..."))


class BytesTest(unittest.TestCase):
    def test_all_bytes(self):
        for many in (1, 2, 3, 15, 16, 47, 48):
            for saying in (INSIDE, read_saying("y > x"), ("true",), ("false",)):
                told = picture_bytes(saying, *WINDOW, many)
                self.assertIsInstance(told, tuple)
                self.assertTrue(all(type(number) is int and 0 <= number <= 255 for number in told))
                size, rows = picture(told)
                self.assertEqual(size, many)
                shown = letters(saying, *WINDOW, many)
                self.assertEqual(rows, [[0 if sign == "#" else 255 for sign in row] for row in shown])

    def test_one_by_hand(self):
        told = picture_bytes(("true",), ORIGIN, CORNER, 1)
        self.assertEqual(told, (
            137, 80, 78, 71, 13, 10, 26, 10, 0, 0, 0, 13, 73, 72, 68, 82, 0, 0, 0, 1, 0, 0, 0, 1, 8, 0, 0, 0, 0, 58, 126, 155, 85,
            0, 0, 0, 13, 73, 68, 65, 84, 120, 1, 1, 2, 0, 253, 255, 0, 0, 0, 2, 0, 1,
        ) + tuple(binascii.crc32(bytes((73, 68, 65, 84, 120, 1, 1, 2, 0, 253, 255, 0, 0, 0, 2, 0, 1))).to_bytes(4, "big")) + (0, 0, 0, 0, 73, 69, 78, 68, 174, 66, 96, 130))

    def test_sizes_of_more_than_one_byte(self):
        told = picture_bytes(INSIDE, *WINDOW, 48)
        self.assertEqual(len(told), 8 + 25 + 12 + 11 + 48 * 49 + 12)
        self.assertEqual(told[33:37], (0, 0, (48 * 49 + 11) >> 8, (48 * 49 + 11) & 255))
        self.assertEqual(told[41:48], (120, 1, 1, 48, 9, 207, 246))


class ArgumentsTest(unittest.TestCase):
    def test_order_and_names(self):
        for function in (letters, picture_bytes):
            named = {"saying": INSIDE, "low": ORIGIN, "high": CORNER, "count": 2}
            self.assertEqual(list(inspect.signature(function).parameters), list(named))
            before = copy.deepcopy(named)
            self.assertEqual(function(**dict(reversed(named.items()))), function(*named.values()))
            self.assertEqual(named, before)

    def refuse(self, error, given, *values):
        for function in (letters, picture_bytes):
            with self.assertRaises(error, msg=repr(values)) as caught:
                function(*values)
            self.assertIs(type(caught.exception), error)
            self.assertIs(caught.exception.given, given)

    def test_refused(self):
        for value in NO_SAYING:
            self.refuse(InvalidSaying, value, value, None, None, None)
        for value in NO_POINT:
            self.refuse(InvalidPoint, value, INSIDE, value, None, None)
            self.refuse(InvalidPoint, value, INSIDE, ORIGIN, value, None)
        for value in (ORIGIN, ((1, 1), (0, 1)), ((0, 1), (1, 1)), ((-1, 1), (1, 1)), ((1, 1), (-1, 9)), ((-1, 1), (-1, 1))):
            self.refuse(InvalidPoint, value, INSIDE, ORIGIN, value, None)
        for value in [each for each in ODD if each is True or each != 1] + [0, -1, 49, 10 ** 90, (1, 1), "4"]:
            self.refuse(InvalidCount, value, INSIDE, ORIGIN, CORNER, value)
        many = balanced([("below", poly(f"x - {k}")) for k in range(9)])
        for function in (letters, picture_bytes):
            with self.assertRaises(TooMany) as caught:
                function(many, None, None, None)
            self.assertEqual(caught.exception.given, 9)


if __name__ == "__main__":
    unittest.main()
