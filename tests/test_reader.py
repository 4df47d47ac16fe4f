"""[30] to [33]: words, and sayings read from texts."""

import random
import unittest

from tests.naive_grammar import words, wrong_spot
from tests.some_sayings import random_poly, random_saying
from twoletters.errors import BadText, TooMany
from twoletters.printer import saying_text
from twoletters.reader import read_book, read_saying, read_scene
from twoletters.sayings import depth_of, is_saying
from twoletters.words import is_free_name, words_of

X, Y, ONE = ((0, 1),), ((), (1,)), ((1,),)
A, B, C = ("below", ((-1, 1),)), ("below", ((-2, 1),)), ("below", ((-3, 1),))
TRUE, FALSE = ("true",), ("false",)


class WordsTest(unittest.TestCase):
    def test_each_is_as_long_as_can_be(self):
        for text, expected in (
            ("", []), ("   \n ", []), ("x", ["x"]), ("xy", ["xy"]), ("x1_y z", ["x1_y", "z"]), ("1x", ["1", "x"]), ("12 3", ["12", "3"]), ("007", ["007"]),
            ("<=<>=>!==!", ["<=", "<", ">=", ">", "!=", "=", "!"]), ("<<==", ["<", "<=", "="]), ("=<", ["=", "<"]), ("! =", ["!", "="]), (":=", [":", "="]),
            ("a_b__", ["a_b__"]), ("_a", ["_", "a"]), ("aB", ["a", "B"]), ("ABC", ["A", "B", "C"]), ("x^2*y", ["x", "^", "2", "*", "y"]), ("--", ["-", "-"]),
            ("()[]|&;:,.", list("()[]|&;:,.")), ("\"'`~@$?\\{}/", list("\"'`~@$?\\{}/")), ("all0", ["all0"]), ("not1x", ["not1x"]), ("9_9", ["9", "_", "9"]),
            ("9" * 150, ["9" * 150]), ("a" * 150, ["a" * 150]),
        ):
            self.assertEqual([word for _, word in words_of(text)], expected, text)
            self.assertEqual(words_of(text), tuple(words(text)))
            for spot, word in words_of(text):
                self.assertEqual(text[spot:spot + len(word)], word)

    def test_remarks(self):
        self.assertEqual(words_of("x # y\nz # 1 # 2"), ((0, "x"), (6, "z")))
        self.assertEqual([words_of("#"), words_of("# x"), words_of("#\n"), words_of("#\n#\nx"), words_of("x#y")], [(), (), (), ((4, "x"),), ((0, "x"),)])
        self.assertEqual(words_of("<#\n="), ((0, "<"), (3, "=")))

    def test_by_luck(self):
        luck = random.Random(301)
        for _ in range(300):
            text = "".join(luck.choice("xyab019_<>=!#^*+-()[]|&;: \n~AZ") for _ in range(luck.randint(0, 40)))
            self.assertEqual(words_of(text), tuple(words(text)))

    def test_no_string(self):
        for value in (None, 1, True, b"x", ("x",), ["x"], {}, (), object()):
            for function in (words_of, read_saying, read_scene, read_book):
                with self.assertRaises(BadText) as caught:
                    function(value)
                self.assertIsNone(caught.exception.spot)

    def test_free_names(self):
        for name in ("a", "z", "a_1", "xx", "x1", "y_", "true1", "lets", "nota", "a" * 24, "a0123456789_________0123"[:24], "somex"):
            self.assertIs(is_free_name(name), True, name)
        for name in ("", "x", "y", "true", "false", "not", "all", "some", "let", "A", "aB", "1a", "_a", "a b", " a", "a ", "a\n", "a-b", "a" * 25, "a.", "<=",
                     None, 1, True, b"a", ("a",), ["a"], {}, (), object()):
            self.assertIs(is_free_name(name), False, name)


class MeaningTest(unittest.TestCase):
    def check(self, text, expected):
        self.assertEqual(read_saying(text), expected, text)
        self.assertEqual(read_scene(text), expected, text)
        self.assertEqual(read_book("let a = " + text + ";"), (("a", expected),))

    def poly(self, text, expected):
        self.check(text + " = 0", ("at", expected))

    def test_sums(self):
        for text, expected in (
            ("0", ()), ("1", ONE), ("007", ((7,),)), ("x", X), ("y", Y), ("x + y", ((0, 1), (1,))), ("x - y", ((0, 1), (-1,))), ("-x", ((0, -1),)), ("-x + y", ((0, -1), (1,))),
            ("- x - y - 1", ((-1, -1), (-1,))), ("1 - 2 - 3", ((-4,),)), ("1 - (2 - 3)", ((2,),)), ("x*y", ((), (0, 1))), ("2*x*3", ((0, 6),)), ("-x*y", ((), (0, -1))),
            ("-2*x + 3*y", ((0, -2), (3,))), ("-x^2", ((0, 0, -1),)), ("(-x)^2", ((0, 0, 1),)), ("-(x + y)^2", ((0, 0, -1), (0, -2), (-1,))), ("x + y*x", ((0, 1), (0, 1))),
            ("2*x^2*y^3", ((), (), (), (0, 0, 2))), ("(x + 1)*(x - 1)", ((-1, 0, 1),)), ("x^0", ONE), ("0^0", ONE), ("(x - x)^0", ONE), ("x^1", X), ("x^4*y^4", ((), (), (), (), (0, 0, 0, 0, 1))),
            ("x^004", ((0, 0, 0, 0, 1),)), ("2^4", ((16,),)), ("(x^2)^2", ((0, 0, 0, 0, 1),)), ("(((x)))", X), ("(-1)", ((-1,),)), ("x - x", ()), ("x*0", ()), ("2*3^2", ((18,),)),
            ("x*(-1)", ((0, -1),)), ("1+2*3^2*x", ((1, 18),)), ("(x^4 + 1) - x^4", ONE), ("x^2*x^2", ((0, 0, 0, 0, 1),)), ("(x + y)^4", ((0, 0, 0, 0, 1), (0, 0, 0, 4), (0, 0, 6), (0, 4), (1,))),
        ):
            self.poly(text, expected)

    def test_relations(self):
        for sign, relation in (("<", "below"), ("<=", "not above"), ("=", "at"), ("!=", "not at"), (">", "above"), (">=", "not below")):
            self.check("x " + sign + " y", (relation, ((0, 1), (-1,))))
            self.check("-1" + sign + "-x", (relation, ((-1, 1),)))
            self.check("0" + sign + "0", (relation, ()))
        self.check("x + 1 < 2*x + 1", ("below", ((0, -1),)))
        self.check("x^4 = x^4 + y", ("at", ((), (-1,))))

    def test_sayings(self):
        a, b, c = "x < 1", "x < 2", "x < 3"
        for text, expected in (
            ("true", TRUE), ("false", FALSE), (a, A), ("[" + a + "]", A), ("[[[" + a + "]]]", A), ("not " + a, ("not", A)), ("not not true", ("not", ("not", TRUE))),
            (f"{a} | {b}", ("either", A, B)), (f"{a} & {b}", ("both", A, B)), (f"{a} | {b} | {c}", ("either", ("either", A, B), C)),
            (f"{a} & {b} & {c}", ("both", ("both", A, B), C)), (f"{a} | {b} & {c}", ("either", A, ("both", B, C))), (f"{a} & {b} | {c}", ("either", ("both", A, B), C)),
            (f"{a} | [{b} | {c}]", ("either", A, ("either", B, C))), (f"[{a} | {b}] & {c}", ("both", ("either", A, B), C)), (f"{a} & [{b} & {c}]", ("both", A, ("both", B, C))),
            (f"not {a} & {b}", ("both", ("not", A), B)), (f"{a} & not {b}", ("both", A, ("not", B))), (f"not [{a} & {b}]", ("not", ("both", A, B))),
            (f"all x: {a} & {b}", ("both", ("all", "x", A), B)), (f"some y: not {a} | {b}", ("either", ("some", "y", ("not", A)), B)), (f"not all x: {a}", ("not", ("all", "x", A))),
            (f"all x: some y: {a}", ("all", "x", ("some", "y", A))), (f"some x: [{a} | {b}]", ("some", "x", ("either", A, B))), (f"{a} & all x: {b} & {c}", ("both", ("both", A, ("all", "x", B)), C)),
            ("not true", ("not", TRUE)), ("(x) < (1)", A), ("[(x) < 1]", A),
        ):
            self.check(text, expected)

    def test_blanks_and_remarks(self):
        for text in ("x<1", " x < 1 ", "\nx\n<\n1\n", "x#y\n<#\n1", "x < 1 # | x < 2", "# x\nx < 1"):
            self.assertEqual(read_saying(text), A)
        self.check("all x:x<1", ("all", "x", A))
        self.check("not[x<1]&[true]", ("both", ("not", A), TRUE))

    def test_names(self):
        self.assertEqual(read_scene("let a = x < 1; a"), A)
        self.assertEqual(read_scene("let a = x < 1; let b = not a; a & b"), ("both", A, ("not", A)))
        # A name that stands for an either stays together.
        self.assertEqual(read_scene("let a = x < 1 | x < 2; a & x < 3"), ("both", ("either", A, B), C))
        self.assertEqual(read_scene("let a = x < 1 & x < 2; x < 3 & a"), ("both", C, ("both", A, B)))
        self.assertEqual(read_scene("let a = x < 1 | x < 2; not a"), ("not", ("either", A, B)))
        # A letter that is free in it is bound.
        self.assertEqual(read_scene("let a = x < 1; all x: a"), ("all", "x", A))
        self.assertEqual(read_scene("let a = some x: x < 1; a | a"), ("either", ("some", "x", A), ("some", "x", A)))
        self.assertEqual(read_scene("let b = true; let a = x < 1; b"), TRUE)
        self.assertEqual(read_scene("let x1 = true;let true1=false; x1&true1"), ("both", TRUE, FALSE))

    def test_books(self):
        self.assertEqual([read_book(""), read_book(" # none\n"), read_book("let a = true;")], [(), (), (("a", TRUE),)])
        self.assertEqual(read_book("let b = x < 1; let a = [b | x < 2];\nlet c = a & b;"),
                         (("b", A), ("a", ("either", A, B)), ("c", ("both", ("either", A, B), A))))


class FormTest(unittest.TestCase):
    """Where a text has not the form."""

    def spot(self, function, text):
        try:
            function(text)
        except BadText as fault:
            return fault.spot
        except TooMany:
            return None
        return None

    def test_by_hand(self):
        for text, spot in (
            ("", 0), ("   ", 3), ("# x", 3), ("x", 1), ("x <", 3), ("x < ", 4), ("x < 1 x", 6), ("x < 1 < 2", 6), ("x < < 1", 4), ("< 1", 0), ("x + < 1", 4), ("x * -1 = 0", 4), ("x ** 2 = 0", 3),
            ("x^-2 = 0", 2), ("x^y = 0", 2), ("x^(2) = 0", 2), ("x^2^2 = 0", 3), ("(x)^2^2 = 0", 5), ("x^^2 = 0", 2), ("2x = 0", 1), ("x y = 0", 2), ("(x = 0", 3), ("(x = 0)", 3), ("x) = 0", 1), ("((x) = 0", 5),
            ("() = 0", 1), ("(x + ) = 0", 5), ("[x = 0", 6), ("[x = 0)", 6), ("x = 0]", 5), ("[]", 1), ("[x] = 0", 2), ("[x = 0] = 0", 8), ("(x = 0) | true", 3), ("[x = 0] + 1", 8), ("--x = 0", 1), ("+x = 0", 0),
            ("x + -1 = 0", 4), ("x - -1 = 0", 4), ("x = --1", 5), ("true true", 5), ("true & ", 7), ("true | | true", 7), ("& true", 0), ("not", 3), ("not & true", 4), ("all", 3), ("all z: true", 4), ("all true", 4), ("all 1: true", 4),
            ("all x true", 6), ("all x: ", 7), ("all x y: true", 6), ("some: true", 4), ("some x:: true", 7), ("true = 0", 5), ("true + 1 = 0", 5), ("1 = true", 4), ("a = 0", 2), ("a + 1 = 0", 2), ("x = a", 4), ("not x", 5), ("let", 0), ("x = let", 4),
            ("X = 0", 0), ("x == 0", 3), ("x = 0;", 5), ("x = 0.5", 5), ("x /2 = 0", 2), ("x ! = 0", 2), ("x => 0", 3), ("x =< 0", 3), ("x <> 0", 3), ("x < 1 && true", 7), ("x < 1 || true", 7), ("_ = 0", 0), ("x = _", 4), ("? = 0", 0), ("x = 1 %", 6),
            ("x" * 25 + " = 0", 0), ("x" * 24 + " = 0", 25), ("1" * 101 + " = 0", 0), ("x = " + "1" * 101, 4), ("x^" + "0" * 101 + " = 0", 2), ("not " + "a" * 25, 4), ("let a = true; a", 0),
        ):
            self.assertEqual(wrong_spot(text, "SAYING"), spot, text)
            self.assertEqual(self.spot(read_saying, text), spot, text)

    def test_scenes_and_books(self):
        for text, scene, book in (
            ("", 0, None), ("let", 3, 3), ("let ", 4, 4), ("let a", 5, 5), ("let a =", 7, 7), ("let a = true", 12, 12), ("let a = true;", 13, None), ("let a = true; ", 14, None), ("let a = true;;", 13, 13), ("let x = true;", 4, 4),
            ("let true = true;", 4, 4), ("let let = true;", 4, 4), ("let 1 = true;", 4, 4), ("let A = true;", 4, 4), ("let a: true;", 5, 5), ("let a == true;", 7, 7), ("let a = x;", 9, 9), ("let a = let b = true;", 8, 8), ("let a = true let b = true;", 13, 13),
            ("let a = true; a", None, 14), ("let a = true; a;", 15, 14), ("let a = true; a let b = true;", 16, 14), ("true; let a = true;", 4, 0), ("let a = [true;", 13, 13), ("let a = x < (1;", 14, 14), ("let " + "a" * 25 + " = true;", 4, 4),
            ("let a = x <= 1; let b = a & x >= 1; b", None, 36), ("true", None, 0), ("let a = true; ]", 14, 14), ("let a = ; a", 8, 8), ("leta = true;", 5, 0), ("let a true;", 6, 6),
        ):
            self.assertEqual([wrong_spot(text, "SCENE"), wrong_spot(text, "BOOK")], [scene, book], text)
            self.assertEqual([self.spot(read_scene, text), self.spot(read_book, text)], [scene, book], text)

    def test_what_is_open(self):
        for opened, shut in (("(", ")"), ("-(", ")"), ("1*(", ")")):
            for many in (24, 25, 26):
                text = opened * many + "x" + shut * many + " = 0"
                spot = None if many == 24 else len(opened) * 24 + len(opened) - 1
                self.assertEqual([self.spot(read_saying, text), wrong_spot(text, "SAYING")], [spot, spot])
        for many in (24, 25):
            text = "[" * many + "true" + "]" * many
            self.assertEqual(self.spot(read_saying, text), None if many == 24 else 24)
        # Prefixes: too deep, but of the form with 24 of them.
        self.assertEqual(self.spot(read_saying, "not " * 24 + "true"), 0)
        self.assertEqual(self.spot(read_saying, "not " * 25 + "true"), 96)
        self.assertEqual(self.spot(read_saying, "all x: " * 24 + "some y: true"), 168)
        self.assertEqual(self.spot(read_saying, "not [" * 12 + "true" + "]" * 12), 0)
        self.assertEqual(self.spot(read_saying, "not [" * 12 + "[true]" + "]" * 12), 60)
        self.assertEqual(self.spot(read_saying, "not [" * 11 + "not (x) = 0" + "]" * 11), 0)
        self.assertEqual(self.spot(read_saying, "[" * 23 + "not true" + "]" * 23), None)
        self.assertEqual(self.spot(read_saying, "[" * 23 + "not (x) = 0" + "]" * 23), 27)
        self.assertEqual(self.spot(read_saying, "[" * 23 + "not x = (0)" + "]" * 23), 31)

    def test_side_by_side(self):
        one = "[" * 24 + "true" + "]" * 24
        self.assertEqual(read_saying(one + " & " + one), ("both", TRUE, TRUE))
        side = "(" * 23 + "x" + ")" * 23
        self.assertEqual(read_saying(f"not {side} < {side} | not {side} < {side}"),
                         ("either", ("not", ("below", ())), ("not", ("below", ()))))
        for first in (one, "(" * 24 + "x" + ")" * 24 + " = 0", "not true", "[" * 20 + "not [true]" + "]" * 20, "all x: not [(x) = 0]"):
            self.assertEqual(self.spot(read_saying, first + " & " + "[" * 25 + "true" + "]" * 25), len(first) + 3 + 24, first)
            self.assertEqual(self.spot(read_saying, first + " & " + one), None)
        # A prefix is shut where its PREFIXED ends.
        self.assertEqual(read_saying("[" * 22 + "not true & not [true]" + "]" * 22), ("both", ("not", TRUE), ("not", TRUE)))
        self.assertEqual(self.spot(read_saying, "[" * 23 + "not true & not [true]" + "]" * 23), 23 + 15)

    def test_by_luck(self):
        luck = random.Random(331)
        tokens = ["x", "y", "1", "2", "(", ")", "[", "]", "+", "-", "*", "^", "<", "<=", "=", "|", "&", "not", "all", "some", ":", "true", "a", "let", ";", "?"]
        texts = ["x^2 + y^2 < 1 & not x <= y", "all x: [some y: x = y^2 | false]", "let a = x < y; let b = not a & true; [a | b] & (x - 1)*2 >= -y", "-(x + 1)^2*y != 3 | a"]
        for _ in range(1500):
            told = [word for _, word in words(luck.choice(texts))]
            for _ in range(luck.randint(0, 2)):
                at = luck.randint(0, len(told))
                told[at:at + luck.randint(0, 1)] = [luck.choice(tokens)] * luck.randint(0, 2)
            text = " ".join(told[:luck.randint(0, len(told) + 3)])
            for function, form in ((read_saying, "SAYING"), (read_scene, "SCENE"), (read_book, "BOOK")):
                expected = wrong_spot(text, form)
                found = self.spot(function, text)
                if expected is not None:
                    self.assertEqual(found, expected, (text, form))
                elif found is not None:
                    self.assertIn(found, [spot for spot, _ in words(text)], text)


class FaultsTest(unittest.TestCase):
    """Faults in texts that have the form."""

    def check(self, function, text, spot):
        self.assertIsNone(wrong_spot(text, {read_saying: "SAYING", read_scene: "SCENE", read_book: "BOOK"}[function]), text)
        with self.assertRaises(BadText, msg=text) as caught:
            function(text)
        self.assertEqual(caught.exception.spot, spot, text)

    def test_powers(self):
        for text, spot in (("x^5 = 0", 2), ("1^5 = 0", 2), ("0^100 = 0", 2), ("x = y^5", 6), ("x^0005 = 0", 2), ("x^" + "9" * 100 + " = 0", 2), ("(x^5)^5 = 0", 3), ("x^3*x^5 = 0", 6), ("some y: x = y^5", 14)):
            self.check(read_saying, text, spot)
        self.assertEqual(read_saying("x^" + "0" * 99 + "4 = 0"), ("at", ((0, 0, 0, 0, 1),)))

    def test_degrees(self):
        for text, spot in (
            ("x^4*x = 0", 3), ("x*x^4 = 0", 1), ("y^3*y^2 = 0", 3), ("x^4*y^4*x = 0", 7), ("(x^2)^3 = 0", 5), ("(x*y^2)^4 = 0", 7), ("x^2*x^2*x^2 = 0", 7), ("x*x*x*x*x = 0", 7), ("(x + y)^3*(x - y)^2 = 0", 9),
            ("x^4*(x - x) = 0", None), ("(x^4*x - x^4*x) = 0", 4), ("x^4*x^4*0 = 0", 3), ("(x^3*y)^2 = 0", 7), ("x*(x^4 + 1) = 0", 1), ("x = x*x^4", 5),
        ):
            if spot is None:
                self.assertEqual(read_saying(text), ("at", ()))
            else:
                self.check(read_saying, text, spot)

    def test_coefficients(self):
        nines, one = "9" * 100, "1" + "0" * 99
        for text, spot in (
            (nines + " + 1 = 0", 101), ("1 + " + nines + " = 0", 2), ("-" + nines + " - 1 = 0", 102), (nines + "*x + x = 0", 103), (one + "*10 = 0", 100), ("10*" + one + " = 0", 2), ("(" + one + ")^2 = 0", 102), ("(x + " + nines + ")^2 = 0", 106),
            (nines + " < -1", 101), ("-1 = " + nines, 3), (nines + "*x < -x", 103), (nines + " - (-1) = 0", 101), ("x = " + one + " + " + one + "*8", None), ("x = " + one + " + " + one + "*9", 105), (nines + " - 1 + 1 = 0", None), (nines + " + 1 - 1 = 0", 101),
            (nines + "*1 = 0", None), ("(" + nines + ")^1 = 0", None), ("(" + nines + ")^0 = 0", None), (nines + " = " + nines, None), (nines + " < 0", None), ("-" + nines + " < 1", 102),
        ):
            if spot is None:
                self.assertTrue(is_saying(read_saying(text)))
            else:
                self.check(read_saying, text, spot)

    def test_the_faulty_part_is_told_alone(self):
        # What is made of a part with a fault has none itself.
        for text, spot in (("x^4*x + x^4*x = 0", 3), ("1 + x^4*x < x^5", 7), ("(x^4*x)^4*x = 0", 4), ("x^5*x^4 = 0", 2), ("x < (x^4*x)", 8), ("x^4*(1 + x^5) = 0", 11)):
            self.check(read_saying, text, spot)

    def test_names(self):
        self.check(read_saying, "a", 0)
        self.check(read_saying, "true & not a | b", 11)
        self.check(read_scene, "let a = true; b", 14)
        self.check(read_scene, "let a = b; let b = true; a", 8)
        self.check(read_scene, "let a = a; a", 8)
        self.check(read_scene, "let b = true; let a = b & a; a", 26)
        self.check(read_book, "let b = true; let a = b & c;", 26)
        self.check(read_scene, "let a = true; let b = true; let a = false; a", 32)
        self.check(read_book, "let a = true; let a = true; let a = b;", 18)
        self.check(read_book, "let a = b; let a = true;", 8)
        # Within it a name that is given again stands for what it stood for.
        self.check(read_book, "let a = true; let a = not a;", 18)
        # A DEFINITION that is not used.
        self.check(read_scene, "let a = b; true", 8)
        self.check(read_scene, "let a = x^5 = 0; true", 10)

    def test_depth(self):
        nine = "not " * 8 + "true"
        ten = "not " * 9 + "true"
        self.assertEqual([depth_of(read_saying(nine)), depth_of(read_saying(ten))], [9, 10])
        self.check(read_saying, "not " + ten, 0)
        self.check(read_saying, "not not " + ten, 0)
        self.check(read_saying, "true & not " + ten, 5)
        self.check(read_saying, "true & " + ten, 5)
        self.check(read_saying, ten + " | true", 41)
        self.check(read_saying, "true | [true | " + ten + "]", 5)
        self.check(read_saying, "[true | " + ten + "] | true", 6)
        self.check(read_saying, "all x: " + ten, 0)
        self.check(read_saying, "true & some y: " + ten, 5)
        self.check(read_saying, "x^5 = 0 & not " + ten, 2)
        many = " | ".join(["true"] * 10)
        self.assertEqual(depth_of(read_saying(many)), 10)
        self.check(read_saying, many + " | true", len(many) + 1)
        self.check(read_saying, many + " | true | true & x^5 = 0", len(many) + 1)
        self.check(read_saying, many + " & true | true", len(many) + 8)

    def test_depth_with_names_filled(self):
        deep = "let a = not not not not true; let b = not not a; let c = not not b; let d = not c; "
        self.assertEqual(depth_of(read_scene(deep + "d")), 10)
        self.check(read_scene, deep + "not d", len(deep))
        self.check(read_scene, deep + "true & d", len(deep) + 5)
        self.check(read_scene, deep + "let e = d | d; true", len(deep) + 10)
        self.check(read_scene, deep + "let e = d | d; e & e", len(deep) + 10)
        # An undefined name and a relation with a fault are one deep.
        eight = "not " * 9
        self.check(read_saying, eight + "a", 36)
        self.check(read_saying, eight + "x^5 = 0", 38)
        self.check(read_saying, "not " + eight + "a", 0)
        self.check(read_saying, "not " + eight + "x^5 = 0", 0)
        self.check(read_scene, "let a = b; " + eight + "a", 8)
        grown = "let a0 = true; " + "".join(f"let a{k + 1} = a{k} & a{k}; " for k in range(9))
        self.assertEqual(depth_of(read_scene(grown + "a9")), 10)
        grown += "".join(f"let a{k + 1} = a{k} & a{k}; " for k in range(9, 60))
        self.check(read_scene, grown + "a9", grown.index("let a10") + 13)

    def test_the_first_one_in_the_text(self):
        for text, spot in (
            ("x^5 = y^5", 2), ("x^4*x = y^5", 3), ("a & x^5 = 0", 0), ("x^5 = 0 & a", 2), ("not a & x^5 = 0 | b", 4), ("x = 0 & b & x^9 = x^4*x", 8), ("(x^2)^3 + x^5 = 0", 5), ("x^4*(x + 1) = x^7", 3),
        ):
            self.check(read_saying, text, spot)
        self.check(read_scene, "let a = x^5 = 0; let a = b; c", 10)
        self.check(read_scene, "let a = true; let a = b; c", 18)

    def test_the_form_goes_ahead(self):
        for function, text, spot in ((read_scene, "let a = b; a &", 14), (read_saying, "x^5 = ", 6), (read_saying, "a & b & ?", 8), (read_saying, "x^9*x^9 = 0 x", 12), (read_book, "let a = b; let a = b", 20), (read_saying, "not " * 20 + "x", 81)):
            with self.assertRaises(BadText) as caught:
                function(text)
            self.assertEqual(caught.exception.spot, spot, text)

    def test_too_many_comes_last(self):
        nine = " | ".join(f"x = {k}" for k in range(1, 10))
        ten = "[" + " | ".join(f"x = {k}" for k in range(1, 6)) + "] | [" + " | ".join(f"y = {k}" for k in range(1, 6)) + "]"
        eight = " | ".join(f"x = {k}" for k in range(1, 9))
        self.assertTrue(is_saying(read_saying(eight)))
        for function, text, many in (
            (read_saying, nine, 9), (read_saying, ten, 10), (read_scene, nine, 9), (read_scene, f"let a = {nine}; true", 9), (read_scene, f"let a = {eight}; {ten}", 10), (read_scene, f"let a = {eight}; a | y = 1", 9),
            (read_scene, f"let a = {ten}; let b = {nine}; true", 10), (read_book, f"let b = true; let a = {ten}; let c = {nine};", 10), (read_book, f"let a = x = 1 | x = 2 | x = 3 | x = 4 | x = 5; let b = y = 1 | y = 2 | y = 3 | y = 4; let c = a & b;", 9),
        ):
            with self.assertRaises(TooMany) as caught:
                function(text)
            self.assertEqual(caught.exception.given, many)
        self.check(read_scene, f"let a = {nine}; b", len(nine) + 10)
        self.check(read_saying, nine + " | true | true", len(nine) + 8)


class BackTest(unittest.TestCase):
    def test_a_long_text_that_was_told(self):
        luck = random.Random(341)
        pool = [tuple(tuple(luck.randint(1, 10 ** 99) for _ in range(5)) for _ in range(5)) for _ in range(8)]
        saying = ("below", pool[0])
        for k in range(9):
            saying = (luck.choice(["both", "either"]), saying, ("not", ("at", pool[k % 8])) if k else saying)
        text = saying_text(saying)
        self.assertGreater(len(text), 20000)
        self.assertEqual(read_saying(text), saying)

    def test_all(self):
        luck = random.Random(342)
        for _ in range(300):
            saying = random_saying(luck, luck.randint(1, 10), [random_poly(luck, 4, 4, luck.choice([1, 3, 10 ** 99])) for _ in range(6)])
            self.assertEqual(read_saying(saying_text(saying)), saying)


if __name__ == "__main__":
    unittest.main()
