"""[25], [26]: sayings."""

import copy
import random
import unittest
from fractions import Fraction

from tests import naive
from tests.some_sayings import RELATIONS, is_so, random_poly, random_saying
from twoletters.errors import InvalidFraction, InvalidLetter, InvalidSaying, TooMany
from twoletters.polys import exchanged as exchanged_poly
from twoletters.sayings import depth_of, exchanged, free_letters, is_saying, polys_of, pushed, put_for

RING, SLOPE = ((-1, 0, 1), (), (1,)), ((0, 1), (-1,))
X, Y, ONE = ((0, 1),), ((), (1,)), ((1,),)
INSIDE, OVER = ("below", RING), ("not above", SLOPE)
TRUE, FALSE = ("true",), ("false",)
LENS = ("both", INSIDE, ("not", OVER))
WRAPS = [
    lambda s: ("not", s), lambda s: ("both", s, TRUE), lambda s: ("both", FALSE, s), lambda s: ("either", s, INSIDE),
    lambda s: ("either", INSIDE, s), lambda s: ("all", "x", s), lambda s: ("some", "y", s), lambda s: ("both", s, s),
]
FUNCTIONS = [depth_of, polys_of, free_letters, exchanged, pushed, lambda saying: put_for(saying, None, None)]


def wrapped(saying, wraps):
    for wrap in wraps:
        saying = wrap(saying)
    return saying


def levels(many):
    """So many unlike POLYs, all of y alone."""
    return [((-k - 1,), (1,)) for k in range(many)]


def either_of(sayings):
    """An either of some sayings, as flat as can be."""
    while len(sayings) > 1:
        pairs = [sayings[k:k + 2] for k in range(0, len(sayings), 2)]
        sayings = [("either", *pair) if len(pair) == 2 else pair[0] for pair in pairs]
    return sayings[0]


NO_SAYING = [
    None, True, False, 0, 1, "", "true", b"true", [], {}, (), ((),), (None,), (True,), (1,), ("",), ("truth",), ("true", "true"), ("true", ()), ["true"],
    ("false", None), ("form", "x", ((), (True,))), ("below",), ("below", None), ("below", RING, RING), ("Below", RING), ("under", RING), (RING, "below"),
    ("below", [RING]), ("below", list(RING)), ("below", ((1, 0),)), ("below", ((1,), ())), ("below", (1,)), ("below", ((True,),)), ("below", ((1, False),)),
    ("below", "y"), (("below", RING),), ["below", RING], ("not",), ("not", INSIDE, INSIDE), ("not", None), ("not", RING), ("not", ["true"]), ("not", "true"),
    ("both",), ("both", TRUE), ("both", TRUE, TRUE, TRUE), ("both", TRUE, None), ("both", (), TRUE), ("both", (TRUE, TRUE)), ("either", TRUE), ("and", TRUE, TRUE),
    ("all", TRUE), ("all", "x"), ("all", "z", TRUE), ("all", "", TRUE), ("all", "X", TRUE), ("all", "xy", TRUE), ("all", True, TRUE), ("all", 0, TRUE),
    ("all", None, TRUE), ("all", ["x"], TRUE), ("all", ("x",), TRUE), ("all", TRUE, "x"), ("all", "x", TRUE, TRUE), ("some", "y", None), ("some", "y", "true"),
    ("some", {}, TRUE), (["all"], "x", TRUE), ({}, TRUE), ("at", ((0, 0, 0, 0, 0, 1),)), ("at", ((1,),) * 6), ("at", ((), (), (), (), (), (1,))), naive.deep(30),
    ("not", naive.deep(29)), ("at", naive.deep(29)), (naive.deep(29), TRUE), ("all", naive.deep(29), TRUE),
]


class SayingTest(unittest.TestCase):
    def test_each_kind(self):
        for relation in RELATIONS:
            for poly in (RING, SLOPE, X, Y, ONE, (), ((10 ** 200,),), ((0, 0, 0, 0, 1),), ((), (), (), (), (1, 2, 3, 4, 5))):
                self.assertIs(is_saying((relation, poly)), True)
                self.assertEqual([depth_of((relation, poly)), polys_of((relation, poly))], [1, (poly,)])
        for saying in [TRUE, FALSE, LENS] + [wrap(LENS) for wrap in WRAPS]:
            self.assertIs(is_saying(saying), True)

    def test_what_is_none_at_any_place_within(self):
        luck = random.Random(251)
        for value in NO_SAYING:
            self.assertIs(is_saying(value), False, value)
            for wrap in WRAPS:
                self.assertIs(is_saying(wrap(value)), False, value)
            value = wrapped(value, [luck.choice(WRAPS) for _ in range(luck.randint(1, 8))])
            for function in FUNCTIONS:
                with self.assertRaises(InvalidSaying, msg=repr(value)) as caught:
                    function(value)
                self.assertIs(caught.exception.given, value)

    def test_how_deep(self):
        for wrap in WRAPS:
            for start in (TRUE, INSIDE):
                saying = wrapped(start, [wrap] * 9)
                self.assertEqual([is_saying(saying), depth_of(saying)], [True, 10])
                self.assertIs(is_saying(wrap(saying)), False)
                with self.assertRaises(InvalidSaying):
                    depth_of(wrap(saying))
        self.assertEqual([depth_of(LENS), depth_of(("either", LENS, ("not", LENS))), depth_of(("either", ("not", TRUE), LENS))], [3, 5, 4])
        deep = INSIDE
        for _ in range(29):
            deep = ("both", deep, deep)
        self.assertIs(is_saying(deep), False)

    def test_degrees(self):
        four, five = (0, 0, 0, 0, 1), (0, 0, 0, 0, 0, 1)
        for poly in ((four,), ((), four), ((), (), (), (), four)):
            self.assertTrue(is_saying(("at", poly)))
            self.assertTrue(is_saying(("not", ("at", exchanged_poly(poly)))))
        for poly in ((five,), ((1,), five), ((), (), (), (), (), (1,)), ((), five, (1,))):
            for saying in (("at", poly), ("both", TRUE, ("at", poly)), ("either", ("at", poly), TRUE), ("all", "x", ("at", poly))):
                self.assertFalse(is_saying(saying))
                with self.assertRaises(InvalidSaying) as caught:
                    exchanged(saying)
                self.assertIs(caught.exception.given, saying)

    def test_how_many_unlike_polys(self):
        eight = either_of([("at", poly) for poly in levels(8)])
        twice = ("both", eight, ("not", ("some", "x", exchanged(exchanged(eight)))))
        for saying in (eight, twice):
            self.assertIs(is_saying(saying), True)
            self.assertEqual(polys_of(saying), tuple(levels(8)))
        for many in (9, 12, 30):
            saying = either_of([("below", poly) for poly in levels(many)])
            self.assertIs(is_saying(saying), False)
            for function in FUNCTIONS:
                with self.assertRaises(TooMany) as caught:
                    function(saying)
                self.assertEqual(caught.exception.given, many)

    def test_what_has_not_the_form_goes_ahead_of_too_many(self):
        nine = either_of([("below", poly) for poly in levels(9)])
        for saying in (("both", nine, None), ("both", None, nine), wrapped(nine, [WRAPS[0]] * 6), ("either", nine, ("at", ((), (0, 0, 0, 0, 0, 1))))):
            with self.assertRaises(InvalidSaying) as caught:
                polys_of(saying)
            self.assertIs(caught.exception.given, saying)

    def test_order_of_polys(self):
        a, b, c, d = levels(4)
        saying = ("either", ("both", ("at", b), ("not", ("below", a))), ("all", "x", ("either", ("at", a), ("both", ("above", d), ("at", c)))))
        self.assertEqual(polys_of(saying), (b, a, d, c))
        self.assertEqual(polys_of(("both", ("at", ()), ("either", ("at", ONE), ("at", ())))), ((), ONE))
        self.assertEqual([polys_of(TRUE), polys_of(("both", ("at", X), ("at", naive.poly_product(((2,),), X))))], [(), (X, ((0, 2),))])


class LettersTest(unittest.TestCase):
    def test_free_letters(self):
        for poly, letters in (((), ()), (ONE, ()), (X, ("x",)), (Y, ("y",)), (RING, ("x", "y")), (((), (), (3,)), ("y",)), (((), (0, 1)), ("x", "y"))):
            for relation in RELATIONS:
                self.assertEqual(free_letters((relation, poly)), letters)
        self.assertEqual([free_letters(TRUE), free_letters(FALSE), free_letters(("not", INSIDE))], [(), (), ("x", "y")])
        self.assertEqual([free_letters(("both", ("at", Y), ("at", X))), free_letters(("either", TRUE, ("at", Y)))], [("x", "y"), ("y",)])

    def test_bound_and_free_again(self):
        some_x = ("some", "x", INSIDE)
        self.assertEqual([free_letters(some_x), free_letters(("all", "y", some_x)), free_letters(("all", "x", some_x)), free_letters(("all", "x", ("at", Y)))], [("y",), (), ("y",), ("y",)])
        self.assertEqual([free_letters(("both", some_x, ("at", X))), free_letters(("some", "y", ("either", some_x, ("at", X))))], [("x", "y"), ("x",)])
        self.assertEqual(free_letters(("all", "x", ("both", ("all", "y", INSIDE), ("at", Y)))), ("y",))


class ExchangedTest(unittest.TestCase):
    def test_by_hand(self):
        self.assertEqual(exchanged(("some", "x", OVER)), ("some", "y", ("not above", ((0, -1), (1,)))))
        self.assertEqual([exchanged(TRUE), exchanged(("at", X)), exchanged(("at", ())), exchanged(("not", ("all", "y", FALSE)))], [TRUE, ("at", Y), ("at", ()), ("not", ("all", "x", FALSE))])

    def test_twice_and_at_places(self):
        luck = random.Random(261)
        for _ in range(150):
            saying = random_saying(luck, luck.randint(1, 8), [random_poly(luck) for _ in range(4)])
            found = exchanged(saying)
            self.assertEqual([exchanged(found), depth_of(found)], [saying, depth_of(saying)])
            self.assertEqual(free_letters(found), tuple(sorted({"x": "y", "y": "x"}[letter] for letter in free_letters(saying))))
            simple = random_saying(luck, 5, [random_poly(luck) for _ in range(4)], False)
            for _ in range(3):
                x, y = Fraction(luck.randint(-6, 6), 2), Fraction(luck.randint(-6, 6), 3)
                self.assertEqual(is_so(exchanged(simple), x, y), is_so(simple, y, x))


class PutTest(unittest.TestCase):
    def test_by_hand(self):
        self.assertEqual(put_for(INSIDE, "x", (1, 2)), ("below", ((-3,), (), (4,))))
        self.assertEqual(put_for(INSIDE, "y", (-2, 3)), ("below", ((-5, 0, 9),)))
        self.assertEqual([put_for(("at", X), "x", (3, 7)), put_for(("at", X), "y", (3, 7)), put_for(("at", X), "x", (0, 1))], [("at", ((3,),)), ("at", X), ("at", ())])
        self.assertEqual([put_for(("at", ()), "x", (3, 7)), put_for(("at", ((10,),)), "y", (3, 7)), put_for(TRUE, "y", (1, 2))], [("at", ()), ("at", ((10,),)), TRUE])
        # x y - 1 and x x y y - y - 1: taken 2 times for x, and 4 times.
        self.assertEqual(put_for(("at", ((-1,), (0, 1))), "x", (1, 2)), ("at", ((-2,), (1,))))
        self.assertEqual(put_for(("at", ((-1,), (-1,), (0, 0, 1))), "x", (1, 2)), ("at", ((-4,), (-4,), (1,))))
        # What comes is not reduced, and may lose its head.
        self.assertEqual([put_for(("at", ((2,), (0, 4))), "x", (1, 2)), put_for(("at", ((1,), (-1, 2))), "x", (1, 2))], [("at", ((4,), (4,))), ("at", ((2,),))])
        self.assertEqual(put_for(("at", ((1,), (-1, 2))), "y", (-5, 3)), ("at", ((8, -10),)))

    def test_under_all_and_some(self):
        for word in ("all", "some"):
            self.assertEqual(put_for((word, "x", INSIDE), "x", (1, 2)), (word, "x", INSIDE))
            self.assertEqual(put_for((word, "y", INSIDE), "x", (1, 2)), (word, "y", ("below", ((-3,), (), (4,)))))
            inner = (word, "y", (word, "x", ("both", INSIDE, (word, "y", INSIDE))))
            self.assertEqual(put_for(inner, "x", (1, 2)), inner)
            self.assertEqual(put_for(inner, "y", (1, 2)), inner)
        found = put_for(("both", INSIDE, ("some", "x", INSIDE)), "x", (1, 2))
        self.assertEqual(found, ("both", ("below", ((-3,), (), (4,))), ("some", "x", INSIDE)))
        found = put_for(("not", ("either", ("all", "y", ("at", SLOPE)), ("all", "x", ("at", SLOPE)))), "x", (5, 3))
        self.assertEqual(found, ("not", ("either", ("all", "y", ("at", ((5,), (-3,)))), ("all", "x", ("at", SLOPE)))))

    def test_at_places(self):
        luck = random.Random(262)
        for _ in range(200):
            saying = random_saying(luck, 5, [random_poly(luck, 4, 4) for _ in range(4)], False)
            x, y = Fraction(luck.randint(-9, 9), luck.randint(1, 4)), Fraction(luck.randint(-9, 9), luck.randint(1, 4))
            self.assertEqual(is_so(put_for(saying, "x", (x.numerator, x.denominator)), 7, y), is_so(saying, x, y))
            self.assertEqual(is_so(put_for(saying, "y", (y.numerator, y.denominator)), x, -7), is_so(saying, x, y))

    def test_it_may_make_too_many(self):
        polys = [((-k, 1), (1,)) if k else ((0, 1), (1,)) for k in range(8)]
        saying = ("both", either_of([("at", poly) for poly in polys]), ("some", "x", either_of([("above", poly) for poly in polys])))
        self.assertTrue(is_saying(saying))
        found = put_for(saying, "x", (1, 2))
        self.assertFalse(is_saying(found))
        with self.assertRaises(TooMany) as caught:
            polys_of(found)
        self.assertEqual(caught.exception.given, 16)

    def test_refused_in_order(self):
        for letter in (None, "z", "", "xy", True, 1, ("x",), ["x"], {}, b"x"):
            with self.assertRaises(InvalidLetter) as caught:
                put_for(INSIDE, letter, None)
            self.assertIs(caught.exception.given, letter)
        for fraction in (None, 1, (2, 4), (1, 0), (1, -1), (True, 1), (1, True), [1, 2], "1", (1, 2, 3), (((-2, 0, 1)), 1)):
            with self.assertRaises(InvalidFraction) as caught:
                put_for(TRUE, "x", fraction)
            self.assertIs(caught.exception.given, fraction)


class PushedTest(unittest.TestCase):
    def test_by_hand(self):
        opposites = {"below": "not below", "at": "not at", "above": "not above", "not below": "below", "not at": "at", "not above": "above"}
        for relation, opposite in opposites.items():
            self.assertEqual([pushed(("not", (relation, RING))), pushed((relation, RING)), pushed(("not", ("not", (relation, RING))))], [(opposite, RING), (relation, RING), (relation, RING)])
        self.assertEqual([pushed(("not", TRUE)), pushed(("not", FALSE)), pushed(("not", ("not", ("not", TRUE))))], [FALSE, TRUE, FALSE])
        self.assertEqual(pushed(("not", ("both", INSIDE, ("not", OVER)))), ("either", ("not below", RING), OVER))
        self.assertEqual(pushed(("not", ("either", INSIDE, ("not", OVER)))), ("both", ("not below", RING), OVER))
        self.assertEqual(pushed(("not", ("all", "x", INSIDE))), ("some", "x", ("not below", RING)))
        self.assertEqual(pushed(("not", ("some", "y", ("not", ("all", "x", INSIDE))))), ("all", "y", ("all", "x", INSIDE)))
        self.assertEqual(pushed(("both", ("not", TRUE), ("all", "x", ("not", INSIDE)))), ("both", FALSE, ("all", "x", ("not below", RING))))

    def test_no_not_is_left(self):
        luck = random.Random(263)
        for _ in range(150):
            saying = random_saying(luck, luck.randint(1, 9), [random_poly(luck) for _ in range(4)])
            before = copy.deepcopy(saying)
            found = pushed(saying)
            self.assertEqual(saying, before)
            self.assertTrue(is_saying(found))
            self.assertNotIn("'not'", repr(found))
            self.assertLessEqual(depth_of(found), depth_of(saying))
            self.assertEqual([free_letters(found), polys_of(found), pushed(found)], [free_letters(saying), polys_of(saying), found])
            simple = random_saying(luck, 6, [random_poly(luck) for _ in range(4)], False)
            for _ in range(3):
                x, y = Fraction(luck.randint(-6, 6), 2), Fraction(luck.randint(-6, 6), 3)
                self.assertEqual(is_so(pushed(simple), x, y), is_so(simple, x, y))


if __name__ == "__main__":
    unittest.main()
