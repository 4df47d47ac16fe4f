"""[49], [50]: cuts, shadows, y of PLACEs, PLACEs exchanged."""

import copy
import inspect
import random
import unittest
from fractions import Fraction

from tests import numeric
from tests.some_regions import random_regions, told_regions
from tests.test_conventions import NO_LETTER, NO_NUMBER, NO_PLACE, ODD
from tests.test_papers import balanced
from tests.test_sayings import NO_SAYING
from tests.test_sheets import poly
from tests.test_stacks import FACTORS, NUMBERS
from twoletters.errors import InvalidCount, InvalidIndex, InvalidLetter, InvalidNumber, InvalidPlace, InvalidSaying, TooMany
from twoletters.forms import do_fit, either, is_form, is_so_of, made_form
from twoletters.numbers import is_number, near, order
from twoletters.pieces import holes_of, nesting_of, piece_at, piece_place, pieces_of
from twoletters.places import is_place, order_over, sign_at
from twoletters.polys import exchanged as exchanged_poly
from twoletters.reader import read_saying
from twoletters.regions import dimension, euler_number, is_bounded, is_closed, is_open
from twoletters.rows import times
from twoletters.sayings import exchanged, is_saying
from twoletters.shadows import exchanged_place, lines_with, shadow_of_piece, stretches_at, y_of
from twoletters.truths import form_of, truth_at

TWO, THREE = (-2, 0, 1), (-3, 0, 1)
ROOT, BACK = (TWO, 1), (TWO, 0)
RING = poly("x^2 + y^2 - 1")
NOTHING, EVERYTHING = ((), (False,)), ((), (True,))


def text(words):
    return read_saying(words)


def form(truths, *ends):
    return (tuple((end, 1) if isinstance(end, int) else end for end in ends), tuple(sign == "1" for sign in truths))


class YTest(unittest.TestCase):
    def test_by_hand(self):
        half = ((-1, 0, 2), 1)
        for place, number in (
            (((1, 2), (3, 4)), (3, 4)), ((ROOT, (-7, 5)), (-7, 5)), (((1, 2), (RING, 1)), ((-3, 0, 4), 1)), (((1, 2), (RING, 0)), ((-3, 0, 4), 0)), (((0, 1), (RING, 1)), (1, 1)), (((1, 1), (RING, 0)), (0, 1)),
            ((half, (RING, 1)), half), ((half, (RING, 0)), ((-1, 0, 2), 0)), ((ROOT, (poly("y - x"), 0)), ROOT), ((ROOT, (poly("y + x"), 0)), BACK), ((ROOT, (poly("y - x^2"), 0)), (2, 1)),
            ((ROOT, (poly("y^2 - x^2 + 2"), 0)), (0, 1)), ((ROOT, (poly("x*y - 2"), 0)), ROOT), ((ROOT, (poly("y^2 - 3"), 1)), (THREE, 1)), ((ROOT, (poly("(y - x)*(y^2 - 3)*(y - 1)"), 1)), (1, 1)),
            ((ROOT, (poly("(y - x)*(y^2 - 3)*(y - 1)"), 2)), ROOT), ((ROOT, (poly("(y - x)*(y^2 - 3)*(y - 1)"), 3)), (THREE, 1)), ((ROOT, (poly("(x - 1)*(y - x)"), 0)), ROOT),
            (((2, 1), (poly("x*(y - x)^2"), 0)), (2, 1)), ((ROOT, (poly("(x^2 - 3)*(y - x - 1)"), 0)), ((-1, -2, 1), 1)), ((ROOT, (poly("y^2 - x"), 1)), ((-2, 0, 0, 0, 1), 1)),
            (((times(TWO, THREE), 2), (poly("y - x^3"), 0)), ((-8, 0, 1), 1)), ((ROOT, (poly("y^4 - 2*x*y^2 + 2"), 1)), ((-2, 0, 0, 0, 1), 1)),
        ):
            self.assertTrue(is_number(y_of(place)))
            self.assertEqual(order(y_of(place), number), 0, place)
        self.assertEqual(y_of(((0, 1), (0, 1))), (0, 1))

    def test_at_numbers_that_are_near(self):
        luck = random.Random(501)
        for _ in range(150):
            factors = [luck.choice(FACTORS) for _ in range(luck.randint(1, 2))]
            number = luck.choice(NUMBERS)
            whole = numeric.product(factors)
            for index, y in enumerate(numeric.poly_roots(factors, numeric.nearest(number)) or []):
                found = y_of((number, (whole, index)))
                self.assertLess(abs(Fraction(near(found, 10 ** 6)[0], 10 ** 6) - y), Fraction(2, 10 ** 6))
                self.check(whole, (number, (whole, index)))
            y = Fraction(luck.randint(-9, 9), luck.randint(1, 5))
            place = (number, (y.numerator, y.denominator))
            self.assertEqual(y_of(place), place[1])
            self.check(whole, place)

    def check(self, whole, place):
        """The place exchanged, and exchanged once more."""
        other = exchanged_place(place)
        self.assertTrue(is_place(other), place)
        self.assertEqual(order(other[0], y_of(place)), 0)
        self.assertEqual(order(y_of(other), place[0]), 0)
        self.assertEqual(sign_at(exchanged_poly(whole), other), sign_at(whole, place))
        back = exchanged_place(other)
        self.assertEqual(order(back[0], place[0]), 0)
        self.assertEqual(order_over(back, place), 0)

    def test_exchanged(self):
        self.assertEqual(order_over(exchanged_place(((0, 1), (3, 1))), ((3, 1), (0, 1))), 0)
        for number in (ROOT, (1, 2), (times(TWO, THREE), 3)):
            for words in ("y - x", "(x - 5)*(y - x)", "y^2 - x", "y^2 - 2", "(x^2 - 5)*(y^2 - x^2)*(y - 1)", "x^2*y - 1"):
                index = 0
                while is_place((number, (poly(words), index))):
                    self.check(poly(words), (number, (poly(words), index)))
                    index += 1

    def test_refused(self):
        for function in (y_of, exchanged_place):
            self.assertEqual(list(inspect.signature(function).parameters), ["place"])
            place = ((1, 2), (RING, 1))
            self.assertEqual(repr(function(place=place)), repr(function(place)))
            self.assertEqual(place, ((1, 2), (poly("x^2 + y^2 - 1"), 1)))
            for value in NO_PLACE:
                with self.assertRaises(InvalidPlace) as caught:
                    function(value)
                self.assertIs(caught.exception.given, value)


class ShadowTest(unittest.TestCase):
    def check(self, words, index, on_x, on_y):
        for saying, letters in ((text(words), "xy"), (exchanged(text(words)), "yx")):
            if letters == "yx":
                index = piece_at(saying, exchanged_place(piece_place(text(words), index)))
            for letter, expected in zip(letters, (on_x, on_y)):
                found = shadow_of_piece(saying, index, letter)
                self.assertTrue(is_form(found))
                self.assertTrue(do_fit(found, expected), (words, index, letter, found))

    def test_by_hand(self):
        opened, closed, right, left = form("00100", -1, 1), form("01110", -1, 1), form("001", 0), form("100", 0)
        self.check("x^2 + y^2 < 1", 0, opened, opened)
        self.check("x^2 + y^2 <= 1", 0, closed, closed)
        self.check("x^2 + y^2 <= 1 & x < 1", 0, form("01100", -1, 1), closed)
        self.check("x^2 + y^2 = 1", 0, closed, closed)
        self.check("x*y = 1", 0, left, left)
        self.check("x*y = 1", 1, right, right)
        self.check("y = x^2", 0, EVERYTHING, form("011", 0))
        self.check("y > x^2", 0, EVERYTHING, right)
        self.check("true", 0, EVERYTHING, EVERYTHING)
        self.check("x = 2 & y = 3", 0, form("010", 2), form("010", 3))
        self.check("x^2 = 2 & y^2 = 3", 0, form("010", BACK), form("010", (THREE, 0)))
        self.check("x^2 = 2 & y^2 = 3", 3, form("010", ROOT), form("010", (THREE, 1)))
        self.check("x = y & x^2 = 2", 1, form("010", ROOT), form("010", ROOT))
        self.check("x^2 = 2", 1, form("010", ROOT), EVERYTHING)
        self.check("x = 1 & 2 < y & y <= 3", 0, form("010", 1), form("00110", 2, 3))
        self.check("x*(y - x) = 0", 0, EVERYTHING, EVERYTHING)
        self.check("y = x^3 - 3*x & x^2 <= 4", 0, form("01110", -2, 2), form("01110", -2, 2))
        self.check("y = x^3 - 3*x & x > -1 & x < 4", 0, form("00100", -1, 4), form("01100", -2, 52))
        self.check("y*(x^2 + 1) = 2*x", 0, EVERYTHING, closed)
        self.check("y*(x^2 + 1) = 1", 0, EVERYTHING, form("00110", 0, 1))
        self.check("y*(x^2 + 1) < 1 & y > 0", 0, EVERYTHING, form("00100", 0, 1))
        self.check("x^2 + y^2 <= 2 & x + y > 0", 0, form("00110", -1, ROOT), form("00110", -1, ROOT))
        self.check("x > 0 & y^2 < x", 0, right, EVERYTHING)

    def test_pieces_of_several(self):
        words = "(x^2 + y^2 - 1)*(x^2 + y^2 - 4) = 0 | x = 5 & y > 1 | x > 7 & y*x = 1"
        self.check(words, 0, form("01110", -2, 2), form("01110", -2, 2))
        self.check(words, 1, form("01110", -1, 1), form("01110", -1, 1))
        self.check(words, 2, form("010", 5), form("001", 1))
        self.check(words, 3, form("001", 7), form("00100", 0, (1, 7)))

    def test_all_together_are_the_shadow_of_the_region(self):
        luck = random.Random(491)
        for saying in [saying for _, saying, _ in told_regions()] + list(random_regions(luck, 25, 3)) + list(random_regions(luck, 10, 3, True)):
            for letter, other in (("x", "y"), ("y", "x")):
                whole = NOTHING
                for index in range(len(pieces_of(saying))):
                    found = shadow_of_piece(saying, index, letter)
                    self.assertTrue(len(found[0]) <= 2 and is_form(found))
                    # One stretch: no end or number between is left out.
                    self.assertEqual("".join("1" if truth else "0" for truth in found[1]).strip("0").count("0"), 0)
                    whole = either(whole, found)
                if is_saying(("some", other, saying)):
                    self.assertTrue(do_fit(whole, form_of(("some", other, saying), letter)), saying)


class LinesTest(unittest.TestCase):
    def test_stretches_by_hand(self):
        for words, told in (
            ("true", [(0, 1), (ROOT, 1)]), ("false", [(0, 0), (ROOT, 0)]), ("x^2 + y^2 < 1", [(-1, 0), ((1, 2), 1), (1, 0), (ROOT, 0), (((-1, 0, 2), 1), 1)]),
            ("x^2 + y^2 = 1", [(-1, 1), (0, 2), (1, 1), (2, 0), (((-1, 0, 2), 0), 2)]), ("x^2 + y^2 >= 1", [(-1, 1), (0, 2), (1, 1), (2, 1)]), ("x^2 + y^2 > 1", [(-1, 2), (0, 2), (1, 2), (2, 1)]),
            ("x^2 = 2", [(ROOT, 1), (BACK, 1), ((times(TWO, THREE), 2), 1), (1, 0)]), ("x^2 = 2 & y != x", [(ROOT, 2), (1, 0)]), ("x*y != 1", [(0, 1), (1, 2), (ROOT, 2)]),
            ("(y^2 - 1)*(y^2 - 4) > 0 & x^2 < 2", [(0, 3), (ROOT, 0), ((7, 5), 3)]), ("(y^2 - 1)*(y^2 - 4) = 0", [(0, 4)]), ("y = 0 | y = x", [(0, 1), (1, 2)]), ("y < 0 | y > x", [(0, 2), (1, 2), (-1, 1)]),
            ("y <= 0 | y > x", [(0, 1), (1, 2), (-1, 1)]),
        ):
            for number, many in told:
                number = (number, 1) if isinstance(number, int) else number
                self.assertEqual(stretches_at(text(words), number), many, (words, number))
                for count in range(6):
                    self.assertIs(is_so_of(lines_with(text(words), count), number), count == many, (words, number))

    def test_lines_by_hand(self):
        for words, count, expected in (
            ("true", 1, EVERYTHING), ("true", 0, NOTHING), ("false", 0, EVERYTHING), ("false", 1, NOTHING), ("x^2 + y^2 = 1", 2, form("00100", -1, 1)), ("x^2 + y^2 = 1", 1, form("01010", -1, 1)),
            ("x^2 + y^2 = 1", 0, form("10001", -1, 1)), ("x^2 + y^2 = 1", 3, NOTHING), ("x^2 + y^2 <= 1", 1, form("01110", -1, 1)), ("x*y = 1", 1, form("101", 0)), ("x*(y - x) = 0", 1, EVERYTHING),
            ("y = x^2 | y = 1 | x = 5", 1, form("0101010", -1, 1, 5)), ("y = x^2 | y = x", 2, form("10101", 0, 1)), ("x^2 = 2", 1, form("01010", BACK, ROOT)), ("true", 10 ** 6, NOTHING),
        ):
            self.assertTrue(do_fit(lines_with(text(words), count), expected), (words, count))
            self.assertEqual(len(lines_with(text(words), count)[0]), len(expected[0]))

    def test_as_many_over_a_column(self):
        luck = random.Random(492)
        for saying in random_regions(luck, 25, 3):
            forms = [lines_with(saying, count) for count in range(9)]
            whole = NOTHING
            for one in forms:
                whole = either(whole, one)
            self.assertEqual(whole, EVERYTHING)
            for number in [(0, 1), (1, 1), ROOT, (-1, 2), (5, 3)]:
                many = stretches_at(saying, number)
                self.assertEqual([is_so_of(one, number) for one in forms], [count == many for count in range(9)])

    def test_stretches_by_numbers_that_are_near(self):
        luck = random.Random(493)
        for saying in random_regions(luck, 15, 3):
            for x in (Fraction(luck.randint(-9, 9), 4) for _ in range(3)):
                number = (x.numerator, x.denominator)
                cut = form_of(("some", "x", ("both", ("at", ((-x.numerator, x.denominator),)), saying)), "y") if is_saying(("some", "x", ("both", ("at", ((1, 1),)), saying))) else None
                if cut is not None:
                    runs = "".join("1" if truth else "0" for truth in cut[1])
                    self.assertEqual(stretches_at(saying, number), len([run for run in runs.split("0") if run]), (saying, x))


class ExchangedRegionTest(unittest.TestCase):
    def test_as_many_of_all(self):
        luck = random.Random(502)
        for saying in [saying for _, saying, _ in told_regions()] + list(random_regions(luck, 20)):
            other = exchanged(saying)
            for function in (euler_number, is_open, is_closed, is_bounded, dimension):
                self.assertEqual(function(other), function(saying), saying)
            pieces, nesting, beside = pieces_of(saying), nesting_of(saying), nesting_of(other)
            self.assertEqual((len(pieces_of(other)), len(holes_of(other))), (len(pieces), len(holes_of(saying))))
            found = []
            for index in range(len(pieces)):
                place = exchanged_place(piece_place(saying, index))
                self.assertTrue(truth_at(other, place))
                found.append(piece_at(other, place))
            self.assertEqual(sorted(found), list(range(len(pieces))))
            for index, within in enumerate(nesting):
                self.assertEqual(beside[found[index]], None if within is None else found[within])


class ArgumentsTest(unittest.TestCase):
    SAYING = text("(x^2 + y^2 - 1)*(x^2 + y^2 - 4) = 0")
    CALLS = [(shadow_of_piece, {"index": 1, "letter": "y"}), (stretches_at, {"number": ROOT}), (lines_with, {"count": 2})]

    def test_all(self):
        many = balanced([("at", poly(f"y - {k}*x")) for k in range(9)])
        for function, more in self.CALLS:
            named = {"saying": self.SAYING, **more}
            self.assertEqual((list(inspect.signature(function).parameters), function.__module__), (list(named), "twoletters.shadows"))
            before = copy.deepcopy(named)
            self.assertEqual(repr(function(**dict(reversed(named.items())))), repr(function(*named.values())))
            self.assertEqual(named, before)
            for value in NO_SAYING:
                with self.assertRaises(InvalidSaying) as caught:
                    function(value, *[None] * len(more))
                self.assertIs(caught.exception.given, value)
            with self.assertRaises(TooMany) as caught:
                function(many, *[None] * len(more))
            self.assertEqual(caught.exception.given, 9)

    def refuse(self, error, given, function, *values):
        with self.assertRaises(error, msg=repr(values)) as caught:
            function(self.SAYING, *values)
        self.assertIs(type(caught.exception), error)
        self.assertIs(caught.exception.given, given)

    def test_refused(self):
        for value in [each for each in ODD if each is True or each is False or not isinstance(each, int) or each not in (0, 1)] + [2, -1, 10 ** 70]:
            self.refuse(InvalidIndex, value, shadow_of_piece, value, None)
        for value in NO_LETTER:
            self.refuse(InvalidLetter, value, shadow_of_piece, 0, value)
        for value in NO_NUMBER:
            self.refuse(InvalidNumber, value, stretches_at, value)
        for value in [each for each in ODD if each is True or each is False or not isinstance(each, int) or each < 0] + [-1, 10 ** 6 + 1, 10 ** 90, (1,)]:
            self.refuse(InvalidCount, value, lines_with, value)

    def test_equal_ends(self):
        self.assertEqual(made_form(*shadow_of_piece(self.SAYING, 0, "x")), shadow_of_piece(self.SAYING, 0, "x"))


if __name__ == "__main__":
    unittest.main()
