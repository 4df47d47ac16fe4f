"""[34], [35]: plain texts."""

import random
import unittest

from tests.some_sayings import RELATIONS, random_poly, random_saying
from twoletters.forms import made_form
from twoletters.printer import form_text, number_text, poly_text, saying_text
from twoletters.reader import read_saying
from twoletters.sayings import exchanged
from twoletters.truths import form_of

TWO = (-2, 0, 1)
ROOT, BACK = (TWO, 1), (TWO, 0)
A, B, C = ("below", ((-1, 1),)), ("at", ((), (1,))), ("above", ((3,),))
TEXTS = {A: "x - 1 < 0", B: "y = 0", C: "3 > 0", ("true",): "true", ("false",): "false"}


def truths(text):
    return tuple(sign == "1" for sign in text)


class PolyTest(unittest.TestCase):
    def test_terms(self):
        for poly, text in (
            ((), "0"), (((1,),), "1"), (((-1,),), "-1"), (((7,),), "7"), (((-7,),), "-7"), (((0, 1),), "x"), (((0, -1),), "-x"), (((), (1,)), "y"), (((), (-1,)), "-y"), (((0, 2),), "2*x"), (((0, -2),), "-2*x"),
            (((0, 0, 1),), "x^2"), (((), (), (-1,)), "-y^2"), (((), (0, 1)), "x*y"), (((), (0, -1)), "-x*y"), (((), (), (0, 0, 0, 5)), "5*x^3*y^2"), (((), (0, 0, 0, 0, 1)), "x^4*y"), (((), (), (), (), (0, 0, 0, 0, -3)), "-3*x^4*y^4"),
            (((1, 1),), "x + 1"), (((-1, 1),), "x - 1"), (((1, -1),), "-x + 1"), (((-1, -1),), "-x - 1"), (((1,), (1,)), "y + 1"), (((0, 1), (-1,)), "-y + x"), (((-1, 0, 1), (), (1,)), "y^2 + x^2 - 1"),
            (((0, -1), (), (2, -3)), "-3*x*y^2 + 2*y^2 - x"), (((1, -2, 3), (-4, 5, -6)), "-6*x^2*y + 5*x*y - 4*y + 3*x^2 - 2*x + 1"), (((0, 0, 0, 0, 0, 1),), "x^5"), (((), ) * 12 + ((1,),), "y^12"),
            (((10 ** 100, -(10 ** 100)),), "-1" + "0" * 100 + "*x + 1" + "0" * 100), (((1, 0, 0, -1), (), (), (0, 1)), "x*y^3 - x^3 + 1"),
        ):
            self.assertEqual(poly_text(poly), text)
            if len(poly) <= 5 and len(text) < 100 and "^5" not in text:
                self.assertEqual(read_saying(text + " != 0"), ("not at", poly))

    def test_order_of_terms(self):
        full = tuple(tuple(range(5 * k + 1, 5 * k + 6)) for k in range(5))
        terms = poly_text(full).split(" + ")
        self.assertEqual(len(terms), 25)
        self.assertEqual([terms[0], terms[1], terms[4], terms[5], terms[19], terms[20], terms[23], terms[24]], ["25*x^4*y^4", "24*x^3*y^4", "21*y^4", "20*x^4*y^3", "6*y", "5*x^4", "2*x", "1"])


class SayingTest(unittest.TestCase):
    def check(self, saying, text):
        self.assertEqual(saying_text(saying), text)
        self.assertEqual(read_saying(text), saying)

    def test_relations(self):
        for relation, sign in (("below", "<"), ("not above", "<="), ("at", "="), ("not at", "!="), ("above", ">"), ("not below", ">=")):
            self.check((relation, ((0, 1), (-1,))), "-y + x " + sign + " 0")
            self.check((relation, ()), "0 " + sign + " 0")
            self.check((relation, ((-1, 0, 1),)), "x^2 - 1 " + sign + " 0")
        for saying, text in TEXTS.items():
            self.check(saying, text)

    def test_brackets_just_where_they_are_told(self):
        a, b, c = TEXTS[A], TEXTS[B], TEXTS[C]
        for saying, text in (
            (("either", A, B), f"{a} | {b}"), (("both", A, B), f"{a} & {b}"), (("not", A), f"not {a}"), (("all", "x", A), f"all x: {a}"), (("some", "y", A), f"some y: {a}"),
            (("either", ("either", A, B), C), f"{a} | {b} | {c}"), (("either", A, ("either", B, C)), f"{a} | [{b} | {c}]"),
            (("either", ("both", A, B), C), f"{a} & {b} | {c}"), (("either", A, ("both", B, C)), f"{a} | {b} & {c}"),
            (("both", ("either", A, B), C), f"[{a} | {b}] & {c}"), (("both", A, ("either", B, C)), f"{a} & [{b} | {c}]"),
            (("both", ("both", A, B), C), f"{a} & {b} & {c}"), (("both", A, ("both", B, C)), f"{a} & [{b} & {c}]"),
            (("not", ("either", A, B)), f"not [{a} | {b}]"), (("not", ("both", A, B)), f"not [{a} & {b}]"), (("not", ("not", A)), f"not not {a}"), (("not", ("all", "x", A)), f"not all x: {a}"),
            (("all", "x", ("either", A, B)), f"all x: [{a} | {b}]"), (("some", "x", ("both", A, B)), f"some x: [{a} & {b}]"), (("all", "y", ("not", A)), f"all y: not {a}"), (("all", "x", ("some", "y", A)), f"all x: some y: {a}"),
            (("both", ("not", A), B), f"not {a} & {b}"), (("both", A, ("not", B)), f"{a} & not {b}"), (("either", ("all", "x", A), B), f"all x: {a} | {b}"), (("either", A, ("some", "x", B)), f"{a} | some x: {b}"),
            (("both", ("some", "y", ("both", A, B)), ("not", ("either", A, C))), f"some y: [{a} & {b}] & not [{a} | {c}]"), (("both", ("either", A, B), ("either", B, C)), f"[{a} | {b}] & [{b} | {c}]"),
        ):
            self.check(saying, text)

    def test_read_again_it_is_the_saying(self):
        luck = random.Random(342)
        texts = {}
        for _ in range(400):
            size = luck.choice([1, 2, 10 ** 100 - 1])
            saying = random_saying(luck, luck.randint(1, 10), [random_poly(luck, luck.randint(0, 4), luck.randint(0, 4), size) for _ in range(4)])
            text = saying_text(saying)
            self.assertEqual(read_saying(text), saying)
            self.assertEqual(texts.setdefault(text, saying), saying)
            self.assertNotIn("  ", text)
            self.assertEqual(text, text.strip())

    def test_deepest_ones(self):
        for wrap in (lambda s: ("not", ("both", A, s)), lambda s: ("both", A, ("either", A, s)), lambda s: ("either", ("either", s, A), A), lambda s: ("all", "x", ("either", s, A))):
            saying = A
            for _ in range(4):
                saying = wrap(saying)
            self.assertEqual(read_saying(saying_text(("some", "y", saying))), ("some", "y", saying))

    def test_all_relations_exchanged(self):
        for relation in RELATIONS:
            saying = (relation, ((1, 2), (3,)))
            self.assertNotEqual(saying_text(saying), saying_text(exchanged(saying)))


class NumberTest(unittest.TestCase):
    def test_numbers(self):
        for number, text in (
            ((0, 1), "0"), ((5, 1), "5"), ((-5, 1), "-5"), ((1, 2), "1/2"), ((-7, 3), "-7/3"), ((10 ** 50, 1), "1" + "0" * 50), (ROOT, "root(x^2 - 2, 1)"), (BACK, "root(x^2 - 2, 0)"),
            (((1, -10, 0, 0, 0, 3), 2), "root(3*x^5 - 10*x + 1, 2)"), (((2, 0, -2, -1, 0, 1), 2), "root(x^5 - x^3 - 2*x^2 + 2, 2)"),
        ):
            self.assertEqual(number_text(number), text)


class FormTest(unittest.TestCase):
    def test_each_kind_of_stretch(self):
        for told, text in (
            ("100", "x < A"), ("110", "x <= A"), ("010", "x = A"), ("001", "A < x"), ("011", "A <= x"), ("101", "x < A or A < x"),
            ("00100", "A < x < B"), ("01100", "A <= x < B"), ("00110", "A < x <= B"), ("01110", "A <= x <= B"), ("01010", "x = A or x = B"), ("11001", "x <= A or B < x"), ("10101", "x < A or A < x < B or B < x"),
            ("10011", "x < A or B <= x"), ("01001", "x = A or B < x"), ("11010", "x <= A or x = B"), ("10110", "x < A or A < x <= B"), ("01101", "A <= x < B or B < x"), ("10010", "x < A or x = B"),
            ("0101010", "x = A or x = B or x = C"), ("1101011", "x <= A or x = B or C <= x"), ("0011011", "A < x <= B or C <= x"), ("0110010", "A <= x < B or x = C"),
        ):
            ends = (BACK, (1, 2), ROOT)[:len(told) // 2]
            form = (ends, truths(told))
            self.assertEqual(made_form(*form), form)
            for letter in "xy":
                expected = text.replace("x", letter)
                for sign, end in zip("ABC", ends):
                    expected = expected.replace(sign, number_text(end))
                self.assertEqual(form_text(letter, form), expected)

    def test_without_ends(self):
        for letter in "xy":
            self.assertEqual([form_text(letter, ((), (True,))), form_text(letter, ((), (False,)))], ["all", "none"])

    def test_told_of_sayings(self):
        for text, letter, expected in (
            ("some y: x^2 + y^2 < 1", "x", "-1 < x < 1"), ("some x: x^2 = y", "y", "0 <= y"), ("2*x = 1 | x > 3", "x", "x = 1/2 or 3 < x"), ("all x: x^2 + y^2 >= 0", "y", "all"), ("x^2 < 0", "x", "none"), ("y^3 >= 0 & y != 2", "y", "0 <= y < 2 or 2 < y"),
        ):
            self.assertEqual(form_text(letter, form_of(read_saying(text), letter)), expected)


if __name__ == "__main__":
    unittest.main()
