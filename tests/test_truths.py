"""[27] to [29]: quantifiers led away, sentences decided, forms, places at which sayings are unlike."""

import random
import unittest
from fractions import Fraction

from tests import naive_kernel
from tests.some_sayings import is_so, random_poly, random_saying, with_letter
from twoletters.cells import cells_of, place_in
from twoletters.errors import InvalidLetter, InvalidSaying, TooMany
from twoletters.forms import do_fit, is_form, is_so_of, made_form
from twoletters.places import is_place
from twoletters.reader import read_saying
from twoletters.rows import times
from twoletters.sayings import depth_of, exchanged, is_saying, pushed, put_for
from twoletters.truths import are_alike, breaking_place, does_follow, form_of, is_true, parting_place, some_place, truth_at

TWO, THREE = (-2, 0, 1), (-3, 0, 1)
ROOT, BACK, FOURTH = (TWO, 1), (TWO, 0), ((-2, 0, 0, 0, 1), 1)
RING, LINE = ((-1, 0, 1), (), (1,)), ((0, -1), (1,))
TRUE_SENTENCES = """
true
0 = 0
0*x = 0
all x: x^2 >= 0
all x: all y: x^2 + y^2 >= 2*x*y
all x: all y: [x^2 + y^2 > 0 | [x = 0 & y = 0]]
all x: [x < 0 | some y: y^2 = x]
all x: [x >= 0 | not some y: y^2 = x]
all x: some y: y^3 = x
all x: some y: y > x
all y: some x: y > x
not some x: all y: y > x
not some x: all y: y <= x
some x: all y: x <= y^2
some x: all y: [y^2 > x & x = 0 | y^2 >= x]
all x: [x = 0 | some y: x*y = 1]
not all x: some y: x*y = 1
all x: [x <= 0 | some y: [y*x = 1 & y > 0]]
some x: [x^2 = 2 & 1 < x & x < 2]
not some x: [x^2 = 2 & x > 3*2 - 4]
some x: some y: [x^2 + y^2 = 1 & y = x + 1]
not some x: some y: [x^2 + y^2 = 1 & y = x + 2]
some x: some y: [x^2 + y^2 = 1 & 3*x + 4*y = 5]
all x: all y: [not [x^2 + y^2 = 1 & 3*x + 4*y = 5] | [5*x = 3 & 5*y = 4]]
all x: all y: [x^2 + y^2 != 1 | 3*x + 4*y <= 5]
all x: [x^2 < 4 | some y: y^2 + x*y + 1 = 0]
all x: [x^2 >= 4 | not some y: y^2 + x*y + 1 = 0]
not all x: [x^2 <= 4 | all y: y^2 + x*y + 1 != 0]
all x: some y: y^3 + x*y^2 + 1 = 0
some x: all y: y^4 + x*y + 1 > 0
not all x: all y: y^4 + x*y + 1 > 0
all x: all y: x^4 + y^4 + 1 > x^2*y
all x: all y: x^4*y^2 + x^2*y^4 + 1 >= 3*x^2*y^2
some x: some y: [x^4*y^2 + x^2*y^4 + 1 = 3*x^2*y^2 & x*y = -1]
not some x: some y: [x^4*y^2 + x^2*y^4 + 1 = 3*x^2*y^2 & x^2 > 1 & y < 0]
all x: some y: [x < y & all x: [x <= y | x > y]]
some x: [x^2 = 2 & some y: [y^2 = x & some x: [x = y^2 & x^2 = 2]]]
some x: [x^2 = 2 & some y: [y^2 = x & some x: [x^2 = y & some y: [y^2 = x & y > 1 & y < 2]]]]
not some x: [x^2 = 2 & some y: [y^2 = x & some x: [x^2 = y & some y: [y^2 = x & 10*y > 11]]]]
all x: [[some y: x = y^2] | [some y: x + y^2 = 0]]
some x: [[some y: x = y^2] & [some y: x + y^2 = 0]]
all x: all y: [x >= y | x < y]
all x: [some y: [y^2 = 2 & x = y]] | true
not some x: [x^2 < 2 & all y: [y^2 >= 2 | y <= x]]
some x: [x^2 <= 2 & all y: [y^2 > 2 | y <= x]]
some x: [all y: y^2 - 2*y >= x & all y: [y < x | y^2 - 2*y >= x] & x = -1]
all x: all x: [x <= 0 | some x: x < 0]
some y: all x: [x^2 + y^2 > 1 | x^2 < 2]
"""
FALSE_SENTENCES = """
false
0 = 1
all x: x^2 > 0
some x: x^2 < 0
all x: all y: x^2 + y^2 > 2*x*y
all x: some y: y^2 = x
some x: all y: x < y
all x: some y: x*y = 1
some x: [x^2 = 2 & x^2 = 3]
some x: some y: [x^2 + y^2 = 1 & x + y = 2]
all x: all y: [x^2 + y^2 != 1 | 3*x + 4*y < 5]
all x: [x^2 <= 4 | not some y: y^2 + x*y + 1 = 0]
all x: all y: [x*y <= 0 | x > 0]
some x: all y: y^3 + x*y > 0
all x: all y: x^4*y^2 + x^2*y^4 + 1 > 3*x^2*y^2
some x: [x^2 = 2 & x > 0 & all y: [y^2 != x | some x: [x = y & x^2 = 2]]]
all x: [[some y: x = y^2] & [some y: x + y^2 = 0]]
"""
# The form of x, or of y: the ends, and the truths.
FORMS = [
    ("some y: y^2 = x", "x", ((0, 1),), "011"),
    ("some x: x^2 = y", "y", ((0, 1),), "011"),
    ("all y: y^2 + x*y + 1 > 0", "x", ((-2, 1), (2, 1)), "00100"),
    ("all x: x^2 + y*x + 1 >= 0", "y", ((-2, 1), (2, 1)), "01110"),
    ("some y: x*y = 1", "x", ((0, 1),), "101"),
    ("some y: [x^2 + y^2 < 2 & x + y > 0]", "x", (((-1, 1)), ROOT), "00100"),
    ("some y: [x^2 + y^2 = 2 & x + y = 0]", "x", ((-1, 1), (1, 1)), "01010"),
    ("some y: [y^2 = 2 & x = y]", "x", (BACK, ROOT), "01010"),
    ("some y: [y^2 = 2 & x > y]", "x", (BACK,), "001"),
    ("all y: [y^2 != 2 | x > y]", "x", (ROOT,), "001"),
    ("all y: [y^2 > 2 | x >= y]", "x", (ROOT,), "011"),
    ("some x: [x^2 = 2 & some y: [y^2 = x & y < x] & y > x]", "y", (ROOT,), "001"),
    ("some x: [[some y: [y^2 = 2 & y = x]] & x > 0 & y^2 = x]", "y", (((-2, 0, 0, 0, 1), 0), FOURTH), "01010"),
    ("some y: [[all x: [x^2 > 2 | x <= y]] & y <= 2 & x = y^2]", "x", ((2, 1), (4, 1)), "01110"),
    ("x^2 < 2 & x != 0", "x", (BACK, (0, 1), ROOT), "0010100"),
    ("x^2 < 2 & x != 0", "y", None, None),
    ("y^2*(y - 1) <= 0", "y", ((1, 1),), "110"),
    ("y^2*(y - 1) < 0", "y", ((0, 1), (1, 1)), "10100"),
    ("all x: all y: x^2 + y^2 >= 0", "x", (), "1"),
    ("all x: x > y", "y", (), "0"),
    ("all x: x > y | y = 3", "y", ((3, 1),), "010"),
    ("some y: x^2 = 2", "x", (BACK, ROOT), "01010"),
    ("all x: [y^3 = y | x = x]", "y", (), "1"),
    ("all x: x*(y^3 - y) = 0", "y", ((-1, 1), (0, 1), (1, 1)), "0101010"),
    ("some x: [x*y = x & x != 0]", "y", ((1, 1),), "010"),
    ("some y: [y^4 - 2*y^2 + x = 0 & y > 0]", "x", ((1, 1),), "110"),
    ("some y: all x: x^2 > y", "y", (), "1"),
]


def lines(text):
    return text.strip().split("\n")


def truths(text):
    return tuple(sign == "1" for sign in text)


def is_x_and_y(x, y):
    """That x and y are two fractions."""
    return ("both", ("at", ((-x.numerator, x.denominator),)), ("at", ((-y.numerator,) if y else (), (y.denominator,))))


class SentencesTest(unittest.TestCase):
    def test_true_ones(self):
        for line in lines(TRUE_SENTENCES):
            saying = read_saying(line)
            self.assertIs(is_true(saying), True, line)
            self.assertIs(is_true(exchanged(saying)), True, line)

    def test_false_ones(self):
        for line in lines(FALSE_SENTENCES):
            saying = read_saying(line)
            self.assertIs(is_true(saying), False, line)
            self.assertIs(is_true(exchanged(saying)), False, line)

    def test_opposites(self):
        for line in lines(TRUE_SENTENCES) + lines(FALSE_SENTENCES):
            saying = read_saying(line)
            if depth_of(saying) < 10:
                self.assertIs(is_true(("not", saying)), not is_true(saying))
            self.assertIs(is_true(pushed(saying)), is_true(saying))

    def test_ten_deep(self):
        for text, told in (
            ("all x: some y: [y > x & some x: [x > y & some y: [y > x & some x: [x > y & y > 0]]]]", True),
            ("all x: some y: [y > x & some x: [x > y & some y: [y > x & all x: [x > y | y > 0]]]]", True),
            ("all x: all y: [y <= x | some x: [x > y & all y: [y <= x | all x: [x <= y | y < 9]]]]", False),
            ("some y: all x: [x <= 1 | some y: [y^2 = x & y > 1 & some x: [x^2 = y & all y: [y^2 != x | y^2 > 1]]]]", True),
            ("some y: all x: [x <= 1 | some y: [y^2 = x & y > 1 & some x: [x^2 = y & x > 0 & all y: [y^2 != x | y > 1]]]]", False),
            ("not not not not not not not not not all x: x^2 > 0", None),
            ("not not not not not not not not all x: x^2 > 0", False),
        ):
            if told is None:
                self.assertRaises(ValueError, read_saying, text)
                continue
            saying = read_saying(text)
            self.assertEqual([depth_of(saying), is_true(saying)], [10, told], text)

    def test_quantifiers_over_letters_that_are_not_free(self):
        for word in ("all", "some"):
            for letter in "xy":
                self.assertIs(is_true((word, letter, ("true",))), True)
                self.assertIs(is_true((word, letter, ("below", ((3,),)))), False)
        self.assertIs(is_true(read_saying("all x: some x: all x: some y: all x: y = 0")), True)
        self.assertTrue(do_fit(form_of(read_saying("all y: some y: x^2 = 2"), "x"), ((BACK, ROOT), truths("01010"))))

    def test_refused(self):
        for text in ("x = 0", "some y: x = y", "[all x: x = y] | true", "all x: [y = 0 | [some y: x = y]]"):
            saying = read_saying(text)
            with self.assertRaises(InvalidSaying) as caught:
                is_true(saying)
            self.assertIs(caught.exception.given, saying)
        nine = read_saying("[[x = 1 | x = 2] & [x = 3 | x = 4]] | [[x = 5 | x = 6] & [x = 7 | x = 8]]")
        nine = ("both", nine, ("at", ((9, 1),)))
        with self.assertRaises(TooMany) as caught:
            is_true(nine)
        self.assertEqual(caught.exception.given, 9)


class FormTest(unittest.TestCase):
    def test_by_hand(self):
        for text, letter, ends, told in FORMS:
            saying = read_saying(text)
            if ends is None:
                with self.assertRaises(InvalidLetter) as caught:
                    form_of(saying, letter)
                self.assertEqual(caught.exception.given, letter)
                continue
            found = form_of(saying, letter)
            self.assertTrue(is_form(found))
            self.assertTrue(do_fit(found, (ends, truths(told))), (text, found))
            other = {"x": "y", "y": "x"}[letter]
            self.assertTrue(do_fit(form_of(exchanged(saying), other), found))

    def test_sentences(self):
        for letter in "xy":
            self.assertEqual(form_of(read_saying("all x: x^2 >= 0"), letter), ((), (True,)))
            self.assertEqual(form_of(read_saying("some y: y^2 < 0"), letter), ((), (False,)))
            self.assertEqual(form_of(("true",), letter), ((), (True,)))

    def test_no_needless_ends(self):
        for text in ("x < 1 | x >= 1", "(x - 1)^2 >= 0", "x^3 - 2*x != 0 | x = 0 | x^2 = 2", "x^2 < 2 | x^2 >= 2"):
            self.assertEqual(form_of(read_saying(text), "x"), ((), (True,)))
        self.assertTrue(do_fit(form_of(read_saying("x < 1 | x = 1 | x^2 < 3"), "x"), (((THREE, 1),), truths("100"))))
        self.assertTrue(do_fit(form_of(read_saying("x^2 < 2 & x^4 <= 4 & x^3 < 2*x"), "x"), (((0, 1), ROOT), truths("00100"))))

    def test_the_letter_comes_last(self):
        with self.assertRaises(InvalidLetter) as caught:
            form_of(read_saying("x = y"), "z")
        self.assertEqual(caught.exception.given, "z")
        for letter in "xy":
            with self.assertRaises(InvalidLetter) as caught:
                form_of(read_saying("x = y"), letter)
            self.assertEqual(caught.exception.given, letter)
        with self.assertRaises(InvalidSaying):
            form_of(("at", None), "z")

    def test_the_form_is_so_as_the_saying_is(self):
        luck = random.Random(281)
        for _ in range(60):
            letter = luck.choice("xy")
            saying = with_letter(luck, letter, 4, [random_poly(luck) for _ in range(3)])
            found = form_of(saying, letter)
            self.assertEqual(made_form(*found), found)
            for _ in range(4):
                n = Fraction(luck.randint(-8, 8), luck.randint(1, 3))
                told = (n.numerator, n.denominator)
                self.assertEqual(is_so_of(found, told), is_true(put_for(saying, letter, told)), (saying, told))

    def test_two_sayings_are_alike_exactly_if_their_forms_fit(self):
        luck = random.Random(282)
        pool = [((-2, 0, 1),), LINE, ((-4, 0, 0, 0, 1),), ((0, -1), (), (1,)), ((0, 1), (), (1,)), RING]
        many = 0
        for _ in range(80):
            one, other = (with_letter(luck, "x", 3, pool) for _ in range(2))
            fit = do_fit(form_of(one, "x"), form_of(other, "x"))
            self.assertIs(are_alike(one, other), fit)
            many += fit
        self.assertTrue(5 < many < 75)


class PlacesTest(unittest.TestCase):
    def test_truth_at_fractions(self):
        luck = random.Random(283)
        for _ in range(120):
            saying = random_saying(luck, 6, [random_poly(luck, 4, 4) for _ in range(5)], False)
            x, y = Fraction(luck.randint(-9, 9), luck.randint(1, 4)), Fraction(luck.randint(-9, 9), luck.randint(1, 4))
            place = ((x.numerator, x.denominator), (y.numerator, y.denominator))
            self.assertIs(truth_at(saying, place), is_so(saying, x, y))

    def test_truth_at_by_hand(self):
        upper = (((-1, 0, 2), 1), (RING, 1))
        for text, place, told in (
            ("x = y", upper, True), ("x^2 + y^2 = 1", upper, True), ("x^2 + y^2 < 1", upper, False), ("x != y | 2*x*y = 1", upper, True),
            ("y^2 = 2", (ROOT, (LINE, 0)), True), ("x*y = 2", (ROOT, (LINE, 0)), True), ("x*y > 2", (ROOT, (3, 2)), True),
            ("some y: [x^2 + y^2 = 1 & x = y]", upper, True), ("some y: [x^2 + y^2 < 1 & x = y]", upper, False),
            ("some x: [x^2 + y^2 = 1 & x = y]", upper, True), ("all x: [x^2 + y^2 > 1 | x <= y]", upper, True), ("all x: [x^2 + y^2 > 1 | x < y]", upper, False),
            ("[some y: [x^2 + y^2 = 1 & x = y]] & [some x: [x^2 + y^2 = 1 & x = y]]", upper, True),
            # At root 2 the number of y is the end of a form of y, told by another POLY.
            ("some x: [x^2 = 2 & x = y]", (ROOT, (LINE, 0)), True), ("some x: [x^2 = 2 & x < y]", (ROOT, (LINE, 0)), True),
            ("all x: [x^2 != 2 | x < y]", (ROOT, (LINE, 0)), False), ("all x: [x^2 != 2 | x < y]", (ROOT, (3, 2)), True),
            ("some x: [x^2 = 2 & x = y]", ((times(TWO, THREE), 2), (LINE, 0)), True), ("some x: [x^2 = 2 & x = y]", ((times(TWO, THREE), 3), (LINE, 0)), False),
            ("some x: [x^2 = 2 & x = y]", ((2, 1), (((0, -1), (), (1,)), 1)), True), ("some x: [x^4 = 2 & x = y]", (ROOT, (((0, -1), (), (1,)), 1)), True),
            ("some x: [x^4 = 2 & x = y]", (ROOT, (((0, -1), (), (1,)), 0)), True), ("some x: [x^4 = 2 & x < y]", (ROOT, (((0, -1), (), (1,)), 0)), False),
            ("some y: [y^2 = 2 & x = y]", ((1, 1), (1, 1)), False), ("some y: [y^2 = 2 & x > y]", ((-1, 1), (0, 1)), True),
            ("all x: x^2 >= 0", (ROOT, (0, 1)), True), ("false", upper, False), ("true", upper, True),
        ):
            self.assertIs(truth_at(read_saying(text), place), told, (text, place))

    def test_so_at_a_single_place_or_along_a_curve(self):
        corner = read_saying("x^2 + y^2 <= 2*x*y & x^3 = 2")
        place = some_place(corner)
        self.assertTrue(truth_at(corner, place) and truth_at(corner, (((-2, 0, 0, 1), 0), (LINE, 0))))
        self.assertFalse(truth_at(corner, (((-2, 0, 0, 1), 0), (1, 1))))
        curve = read_saying("(x^2 + y^2 - 1)^2 <= 0")
        self.assertTrue(truth_at(curve, some_place(curve)))
        self.assertIs(are_alike(curve, ("at", RING)), True)
        self.assertIs(is_true(("not", ("all", "x", ("all", "y", curve)))), True)
        without = read_saying("y^2 != x^3")
        self.assertTrue(truth_at(without, some_place(without)))
        self.assertTrue(truth_at(("not", without), some_place(("not", without))))

    def test_some_place(self):
        for text in ("false", "x^2 < 0", "x^2 + y^2 < 0", "x^2 + y^2 = 1 & x + y = 2", "some x: x^2 < 0", "all x: x = y", "x < y & y < x", "y^2 = 2 & y^2 = 3", "x^2 = 2 & y = x & x*y != 2"):
            self.assertIsNone(some_place(read_saying(text)), text)
        for text in ("true", "x^2 = 2", "y^2 = 2", "x^2 = 2 & y^2 = 3", "x^2 + y^2 = 0", "x^2 + y^2 = 1 & 3*x + 4*y = 5", "y^3 = x & x^2 = 2", "all x: x^2 + y >= 0",
                     "all y: x = 5", "some x: [x^2 = 2 & x = y]", "some y: [y^2 = 2 & x^2 = y]", "[some x: [x^2 = 2 & x = y]] & [some y: [y^2 = 2 & x = y]]",
                     "x = 1000000 & y < -1000000", "[some x: [x^2 = 2 & x = y]] & x = y + 1", "x*y = 1 & x^2 = y"):
            saying = read_saying(text)
            place = some_place(saying)
            self.assertTrue(is_place(place), text)
            self.assertIs(truth_at(saying, place), True, (text, place))

    def test_alike(self):
        same = [
            ("x^2 + y^2 <= 2*x*y", "x = y"), ("x*y = 0", "x = 0 | y = 0"), ("x*y > 0", "[x > 0 & y > 0] | [x < 0 & y < 0]"),
            ("some x: x^2 = y", "y >= 0"), ("x < y | y < x", "x != y"), ("x^2 < 2", "x < 2 & x^2 < 2"), ("all x: x > y", "false"),
            ("some y: [y^2 = 2 & x = y]", "x^2 = 2"), ("some y: [y >= 0 & y^2 = 2 & x = y]", "x^2 = 2 & x > 0"), ("x^3 = y^3", "x = y"),
            ("some y: x^2 + y^2 = 1", "x^2 <= 1"), ("x^4 - y^4 = 0", "x^2 - y^2 = 0"),
        ]
        for one, other in same:
            one, other = read_saying(one), read_saying(other)
            self.assertIs(are_alike(one, other), True)
            self.assertIs(are_alike(other, one), True)
            self.assertIsNone(parting_place(one, other))
            self.assertEqual([does_follow(one, other), does_follow(other, one), breaking_place(one, other), breaking_place(other, one)], [True, True, None, None])

    def test_unlike(self):
        unlike = [
            ("x^2 + y^2 <= 1", "x^2 + y^2 < 1"), ("x^2 + y^2 > 0", "true"), ("(x^2 - 2)^2 + (y - x)^2 > 0", "true"), ("x < y", "x <= y"), ("x < y", "y < x"),
            ("x^2 < 2", "x^2 <= 2"), ("true", "false"), ("x^2 + y^2 < 1", "x^2 + y^2 < 2"), ("x = y", "x^2 = y^2"), ("some y: y^2 = x", "x > 0"),
            ("x^3 < 2", "[x^3 < 2] & [x != 1 | y^2 != 3]"), ("x*y = 1", "x*y = 1 & x > 0"),
        ]
        for one, other in unlike:
            one, other = read_saying(one), read_saying(other)
            self.assertEqual([are_alike(one, other), are_alike(other, one)], [False, False])
            for first, second in ((one, other), (other, one)):
                place = parting_place(first, second)
                self.assertNotEqual(truth_at(first, place), truth_at(second, place))
                place = breaking_place(first, second)
                self.assertIs(does_follow(first, second), place is None)
                if place is not None:
                    self.assertEqual([truth_at(first, place), truth_at(second, place)], [True, False])
            self.assertFalse(does_follow(one, other) and does_follow(other, one))

    def test_follows(self):
        self.assertEqual([does_follow(("false",), ("at", RING)), does_follow(("at", RING), ("true",)), does_follow(("true",), ("false",))], [True, True, False])
        one, other = read_saying("x^2 + y^2 < 1"), read_saying("x < 1 & y > -1")
        self.assertEqual([does_follow(one, other), does_follow(other, one)], [True, False])
        # What is so at one place alone breaks it.
        one, other = read_saying("x^2 + y^2 <= 1"), read_saying("3*x + 4*y < 5")
        place = breaking_place(one, other)
        self.assertEqual([does_follow(one, other), truth_at(is_x_and_y(Fraction(3, 5), Fraction(4, 5)), place)], [False, True])

    def test_errors_of_the_second_saying(self):
        deep = ("true",)
        for _ in range(10):
            deep = ("not", deep)
        many = read_saying("x = 1 | x = 2 | x = 3 | x = 4 | x = 5 | x = 6 | x = 7 | x = 8")
        for function in (are_alike, parting_place, does_follow, breaking_place):
            with self.assertRaises(InvalidSaying) as caught:
                function(("true",), deep)
            self.assertIs(caught.exception.given, deep)
            with self.assertRaises(TooMany) as caught:
                function(many, ("either", ("at", RING), many))
            self.assertEqual(caught.exception.given, 9)
            with self.assertRaises(TooMany) as caught:
                function(("either", ("at", RING), many), deep)

    def test_sayings_of_eight_polys_each(self):
        one = read_saying("x = 1 | x = 2 | x = 3 | x = 4 | x = 5 | x = 6 | x = 7 | x = 8")
        self.assertEqual([are_alike(one, one), are_alike(one, exchanged(one)), does_follow(one, exchanged(one))], [True, False, False])


class QuantifiersTest(unittest.TestCase):
    def test_laws(self):
        luck = random.Random(271)
        pool = [random_poly(luck, 2, 2, 2) for _ in range(12)] + [RING, LINE, ((-2, 0, 1),)]
        for _ in range(50):
            one, other = (random_saying(luck, 3, [luck.choice(pool) for _ in range(2)]) for _ in range(2))
            letter = luck.choice("xy")
            for word, opposite in (("all", "some"), ("some", "all")):
                self.assertIs(are_alike(("not", (word, letter, one)), (opposite, letter, ("not", one))), True)
            for word, join in (("all", "both"), ("some", "either")):
                self.assertIs(are_alike((word, letter, (join, one, other)), (join, (word, letter, one), (word, letter, other))), True)
            self.assertIs(does_follow(("all", letter, one), one), True)
            self.assertIs(does_follow(one, ("some", letter, one)), True)


class KernelTest(unittest.TestCase):
    """All against the words of [27] and [28], taken as they stand."""

    def check(self, saying, luck):
        kernel = naive_kernel.kernel_of(saying)
        free = naive_kernel.free(saying)
        if not free:
            self.assertIs(is_true(saying), naive_kernel.form_of(kernel, "x")[1][0], saying)
        if len(free) < 2:
            letter = min(free) if free else luck.choice("xy")
            self.assertTrue(do_fit(form_of(saying, letter), naive_kernel.form_of(kernel, letter)), saying)
        lot = naive_kernel.lot_of(kernel)
        columns = naive_kernel.truths_of(kernel)[1]
        place = some_place(saying)
        self.assertEqual(place is not None, any(any(each) for each in columns), saying)
        if place is not None:
            self.assertTrue(truth_at(saying, place))
            if len(lot) < 8:
                self.assertTrue(naive_kernel.truth_at(kernel, place))
        stacks = cells_of(lot)[1]
        for _ in range(4):
            column = luck.randrange(len(stacks))
            level = luck.randrange(len(stacks[column][2]))
            self.assertIs(truth_at(saying, place_in(lot, (column, level))), columns[column][level], (saying, column, level))

    def test_by_luck(self):
        luck = random.Random(272)
        for _ in range(150):
            pool = [random_poly(luck, 2, 2, luck.choice([1, 2, 3])) for _ in range(luck.randint(1, 3))]
            self.check(random_saying(luck, luck.randint(2, 6), pool), luck)

    def test_forms_within_further_quantifiers(self):
        luck = random.Random(273)
        ends = [((-2, 0, 1),), ((-1, 1),), ((-3, 1, 1),), ((-1, 2),), ((-2, 0, 0, 1),), ((0, 1),)]
        curves = [RING, LINE, ((-1,), (0, 1)), ((0, 0, -1), (1,)), ((0, -1), (), (1,)), ((-1, 1, 1), (0, 1), (1,)), ((0, 0, -1), (0, 1))]
        relations = list(naive_kernel.SIGNS)
        for _ in range(150):
            pool = [(luck.choice(relations), luck.choice(curves)) for _ in range(2)]
            saying = luck.choice(pool)
            for _ in range(luck.randint(2, 4)):
                end = (luck.choice(relations), luck.choice(ends))
                beside = luck.choice(pool + [end, exchanged(end)])
                saying = (luck.choice(["both", "either"]), *luck.sample([saying, beside], 2))
                saying = (luck.choice(["all", "some"]), luck.choice("xy"), saying)
                if luck.random() < 0.2:
                    saying = ("not", saying)
            if is_saying(saying) and self.is_small(saying):
                self.check(saying, luck)

    def is_small(self, saying):
        """Whether all lots are of up to eight POLYs, as cells are asked for by no more."""
        try:
            return len(naive_kernel.lot_of(naive_kernel.kernel_of(saying))) <= 8
        except ValueError:
            return False


if __name__ == "__main__":
    unittest.main()
