"""[37] to [39]: claims and papers, those that are made and those of others."""

import copy
import random
import unittest

from tests import naive, naive_paper
from tests.some_sayings import random_poly, random_saying
from tests.spoiling import spoilt
from tests.test_conventions import ODD
from tests.test_sayings import NO_SAYING
from tests.test_sheets import BOTH_SHEET, HYPER_SHEET, LINE, LINE_SHEET, RING, RING_SHEET, RING_STACKS, ROOT, TWO, poly
from tests.test_truths import FALSE_SENTENCES, FORMS, TRUE_SENTENCES
from twoletters.cases import Case
from twoletters.certificates import certify_alike, certify_form, certify_some, certify_truth, sheet_of
from twoletters.checker import accepts
from twoletters.errors import InvalidLetter, InvalidSaying, TooMany
from twoletters.forms import do_fit
from twoletters.pins import opened_pin, truth_at_pin
from twoletters.reader import read_saying
from twoletters.sayings import depth_of, is_saying, polys_of
from twoletters.truths import are_alike, form_of, some_place, truth_at

INSIDE, OUTSIDE = ("below", RING), ("above", RING)
SOME_Y, SOME_X = ("some", "y", INSIDE), ("some", "x", INSIDE)
SHADOW = (((-1, 1), (1, 1)), (False, False, True, False, False))
CLOSED_SHADOW = (((-1, 1), (1, 1)), (False, True, True, True, False))
NOTHING = ("both", INSIDE, OUTSIDE)
# -y + x, with letters exchanged.
BACK_SHEET = LINE_SHEET[:1] + ((poly("x - y"),),) + LINE_SHEET[2:]
# x (y - x): the row x, and the line.
SLANT_SHEET = (((0, 1),), (LINE,), ((1, (1,), (1,)),), ((0, 1),), ((-1, 1), (1, 1)), (((-2, 1), (0, 1)), ((-1, 1), (1, 1)), ((0, 1), (2, 1))))
SLANT = poly("x*(y - x)")


def text(words):
    return read_saying(words)


class ClaimsTest(unittest.TestCase):
    def yes(self, claim, paper):
        self.assertIs(accepts(claim, paper), True, (claim, paper))
        self.assertIs(accepts(paper=paper, claim=claim), True)
        self.assertTrue(naive_paper.accepts(claim, paper), (claim, paper))

    def no(self, claim, paper):
        self.assertIs(accepts(claim, paper), False, (claim, paper))
        self.assertFalse(naive_paper.accepts(claim, paper), (claim, paper))

    def test_true_and_false(self):
        for sentence, sheets, truth in (
            (("true",), (), True), (("false",), (), False), (text("0 = 0"), (), True), (text("not 1 < 0"), (), True), (text("3 < 2 | true & not false"), (), True),
            (text("all x: x^2 >= 0"), (), True), (text("some y: [y^2 = 2 & y > 1]"), (), True), (text("some y: y^2 < 0"), (), False),
            (("all", "x", SOME_Y), (RING_SHEET,), False), (("some", "x", SOME_Y), (RING_SHEET,), True), (("some", "y", SOME_X), (RING_SHEET,), True),
            (("all", "y", ("not", SOME_X)), (RING_SHEET,), False), (text("all x: some y: y = x"), (LINE_SHEET,), True), (text("all y: some x: y = x"), (BACK_SHEET,), True),
            (text("some x: all y: x*y = 0"), ((((0, 1),), (poly("y"),), ((1, (1,), (1,)),), ((0, 1),), ((-1, 1), (1, 1)), (((-1, 1), (1, 1)),) * 3),), True),
            (text("all x: some y: x*y = 1"), (HYPER_SHEET,), False), (text("all x: [x = 0 | some y: x*y = 1]"), (HYPER_SHEET,), True),
            (text("some x: [x = 0 & all y: x*(y - x) = 0]"), (SLANT_SHEET,), True), (text("some x: [x != 0 & all y: x*(y - x) = 0]"), (SLANT_SHEET,), False),
            (text("some x: [x != 0 & some y: x*(y - x) = 0]"), (SLANT_SHEET,), True),
        ):
            word, other = ("true", "false") if truth else ("false", "true")
            self.yes((word, sentence), sheets)
            self.no((other, sentence), sheets)
            self.no((word, sentence), sheets + (RING_SHEET,))
            self.no((word, sentence), (RING_SHEET,) + sheets)
            self.no((word, ("not", sentence)), sheets)
            for wrong in (list(sheets), sheets[:-1] if sheets else None, (sheets,), None, sheets + ((),)):
                self.no((word, sentence), wrong)

    def test_free_letters_are_refused(self):
        for saying in (INSIDE, SOME_Y, SOME_X, text("x = x | x < 1")):
            self.no(("true", saying), (RING_SHEET,))
            self.no(("false", saying), (RING_SHEET,))
            self.no(("true", saying), ())

    def test_forms(self):
        for saying, letter, form, sheets in (
            (SOME_Y, "x", SHADOW, (RING_SHEET,)), (SOME_X, "y", SHADOW, (RING_SHEET,)), (text("some y: x^2 + y^2 <= 1"), "x", CLOSED_SHADOW, (RING_SHEET,)),
            (text("all y: x^2 + y^2 > 1"), "x", (SHADOW[0], (True, False, False, False, True)), (RING_SHEET,)),
            (text("x^2 < 2"), "x", (((TWO, 0), ROOT), (False, False, True, False, False)), ()), (text("y^2 < 2"), "y", (((TWO, 0), ROOT), (False, False, True, False, False)), ()),
            (("true",), "y", ((), (True,)), ()), (text("0 > 1"), "x", ((), (False,)), ()), (text("all x: some y: y > x"), "y", ((), (True,)), (LINE_SHEET,)),
            (("both", SOME_Y, text("0 < x & x < 3")), "x", (((0, 1), (1, 1)), (False, False, True, False, False)), (RING_SHEET,)),
        ):
            self.yes(("form", saying, letter, form), sheets)
            ends, truths = form
            self.no(("form", saying, letter, (ends, tuple(not truth for truth in truths))), sheets)
            self.no(("form", saying, letter, (ends, list(truths))), sheets)
            self.no(("form", saying, letter, ((), (False,)) if form != ((), (False,)) else ((), (True,))), sheets)
            self.no(("form", saying, letter, form), sheets + (RING_SHEET,))
            for wrong in ("z", "", None, 1, ("x",), "xy"):
                self.no(("form", saying, wrong, form), sheets)
            other = "y" if letter == "x" else "x"
            self.assertIs(accepts(("form", saying, other, form), sheets), naive_paper.accepts(("form", saying, other, form), sheets))
        self.no(("form", SOME_Y, "y", SHADOW), (RING_SHEET,))
        self.no(("form", INSIDE, "x", SHADOW), (RING_SHEET,))
        self.no(("form", INSIDE, "x", SHADOW), ())
        self.no(("form", SOME_Y, "x", CLOSED_SHADOW), (RING_SHEET,))

    def test_a_form_may_be_told_otherwise(self):
        saying = text("some y: [x^2 = 2 & y > x]")
        claim, paper = certify_form(saying, "x")
        for ends in (((TWO, 0), ROOT), (((6, 0, -5, 0, 1), 1), ROOT), ((TWO, 0), ((6, 0, -5, 0, 1), 2))):
            self.yes(("form", saying, "x", (ends, (False, True, False, True, False))), paper)
        self.no(("form", saying, "x", ((((6, 0, -5, 0, 1), 0), ROOT), (False, True, False, True, False))), paper)

    def test_some(self):
        slanted = text("x^2 + y^2 = 1 & x = y & x > 0")
        half = ((-1, 0, 2), 1)
        for saying, pin in (
            (INSIDE, ((1, 2), (0, 1))), (INSIDE, (half, (0, 1))), (("not above", RING), ((1, 1), (0, 1))), (slanted, (half, ((0, 1), (1, 1), RING))),
            (slanted, (half, ((0, 1), (1, 1), LINE))), (slanted, (half, ((1, 2), (3, 4), poly("2*y^2 - 1")))), (("at", RING), ((1, 2), ((0, 1), (2, 1), RING))),
            (("true",), (half, (7, 3))), (("not", NOTHING), ((3, 1), (3, 1))), (text("x*y - x^2 = 0 & y > 1"), ((0, 1), (5, 1))),
        ):
            self.yes(("some", saying), (pin, ()))
            self.no(("some", ("not", saying)), (pin, ()))
            self.no(("none", saying), (pin, ()))
            self.no(("some", saying), (pin, (RING_SHEET,)))
            for wrong in ([pin, ()], (pin,), pin, (pin, (), ()), (pin, []), (pin, None), (list(pin), ()), ((pin[0],), ()), (pin + ((0, 1),), ()), ((), ()), None):
                self.no(("some", saying), wrong)
        self.yes(("some", ("both", SOME_Y, text("y > 3"))), (((1, 2), (4, 1)), (RING_SHEET,)))
        self.no(("some", ("both", SOME_Y, text("y > 3"))), (((1, 1), (4, 1)), (RING_SHEET,)))
        self.no(("some", ("both", SOME_Y, text("y > 3"))), (((1, 2), (4, 1)), ()))

    def test_none(self):
        self.yes(("none", NOTHING), (RING_SHEET,))
        self.yes(("none", ("false",)), ())
        self.yes(("none", text("x^2 < 0")), ())
        self.yes(("none", text("y^2 < 0 & y > 1")), ())
        self.yes(("none", ("both", SOME_Y, text("x > 1"))), (RING_SHEET,))
        for saying, sheets in ((INSIDE, (RING_SHEET,)), (NOTHING, ()), (NOTHING, (RING_SHEET, RING_SHEET)), (NOTHING, (LINE_SHEET,)), (text("x^2 < 0"), (RING_SHEET,)),
                               (("both", SOME_Y, text("x >= 1 | x = 0")), (RING_SHEET,)), (NOTHING, RING_SHEET), (NOTHING, [RING_SHEET])):
            self.no(("none", saying), sheets)

    def test_alike(self):
        swapped = ("below", poly("y^2 + x^2 - 1"))
        self.yes(("alike", INSIDE, swapped), (RING_SHEET,))
        self.yes(("alike", INSIDE, ("not", ("not below", RING))), (RING_SHEET,))
        self.yes(("alike", ("true",), text("x^2 >= 0")), ())
        self.yes(("alike", SOME_Y, text("-1 < x & x < 1")), (RING_SHEET, RING_SHEET))
        self.yes(("alike", text("-1 < x & x < 1"), SOME_Y), (RING_SHEET, RING_SHEET))
        self.no(("alike", SOME_Y, text("-1 < x & x < 1")), (RING_SHEET,))
        self.no(("alike", SOME_Y, text("-1 < x & x < 1")), (RING_SHEET,) * 3)
        self.no(("alike", SOME_Y, text("-1 <= x & x < 1")), (RING_SHEET, RING_SHEET))
        self.no(("alike", INSIDE, ("not above", RING)), (RING_SHEET,))
        self.no(("unlike", INSIDE, swapped), (RING_SHEET,))
        self.yes(("alike", ("not", OUTSIDE), text("x^2 + y^2 <= 1")), (RING_SHEET,))
        lens = ("both", INSIDE, ("below", LINE))
        lot = Case(("both", lens, lens)).lot
        self.assertEqual(lot, (RING, LINE))
        self.yes(("alike", lens, ("both", ("below", LINE), INSIDE)), (BOTH_SHEET,))
        self.no(("alike", ("both", ("below", LINE), INSIDE), lens), (BOTH_SHEET,))

    def test_unlike(self):
        centre, edge = ((0, 1), (0, 1)), ((1, 1), (0, 1))
        self.yes(("unlike", INSIDE, OUTSIDE), (centre, (), ()))
        self.no(("unlike", INSIDE, OUTSIDE), (edge, (), ()))
        self.yes(("unlike", INSIDE, ("not above", RING)), (edge, (), ()))
        self.no(("unlike", INSIDE, ("not above", RING)), (centre, (), ()))
        self.yes(("unlike", INSIDE, SOME_Y), (((0, 1), (2, 1)), (), (RING_SHEET,)))
        self.no(("unlike", INSIDE, SOME_Y), (((0, 1), (2, 1)), (RING_SHEET,), ()))
        self.no(("unlike", INSIDE, SOME_Y), (((0, 1), (0, 1)), (), (RING_SHEET,)))
        self.no(("alike", INSIDE, SOME_Y), (((0, 1), (2, 1)), (), (RING_SHEET,)))
        for wrong in ((centre,), (centre, ()), [centre, (), ()], (centre, (), (), ()), (centre, (), None), (centre, [], ()), ((), (), ()), (None, (), ())):
            self.no(("unlike", INSIDE, OUTSIDE), wrong)

    def test_what_is_no_claim(self):
        good = (("true", ("true",)), ())
        self.yes(*good)
        for value in ODD + [("true",), ("true", ("true",), ()), ["true", ("true",)], ("truth", ("true",)), (("true",), "true"), ("true", "true"), ("some", INSIDE, INSIDE), ("alike", INSIDE),
                            ("form", SOME_Y, "x"), ("form", SOME_Y, SHADOW, "x"), ("", ("true",)), (True, ("true",)), (b"true", ("true",)), ("form",), ("unlike",)]:
            for paper in ((), (RING_SHEET,), None):
                self.no(value, paper)
        for value in NO_SAYING + [("at", ((1,),) * 6)]:
            for claim in (("true", value), ("false", value), ("some", value), ("none", value), ("form", value, "x", SHADOW), ("alike", value, INSIDE), ("alike", INSIDE, value),
                          ("unlike", value, INSIDE), ("unlike", INSIDE, value)):
                self.no(claim, ())
                self.assertIs(accepts(claim, (RING_SHEET,)), False)
                self.assertIs(accepts(claim, (((0, 1), (0, 1)), (), ())), False)
        for value in ODD + [naive.deep(30)]:
            if value != ():
                self.no(good[0], value)


class SheetsTest(unittest.TestCase):
    """Which sheets a paper has, in which order."""

    def check(self, saying, lots, letter=None):
        claim, paper = certify_form(saying, letter) if letter else certify_truth(saying)
        self.assertIs(accepts(claim, paper), True)
        self.assertEqual(len(paper), len(lots), saying)
        for lot, sheet in zip(lots, paper):
            self.assertTrue(naive_paper.is_sheet(tuple(poly(words) for words in lot), sheet), (lot, sheet))
        for k in range(len(paper)):
            self.assertIs(accepts(claim, paper[:k] + paper[k + 1:]), False)
            self.assertIs(accepts(claim, paper[:k] + paper[k:k + 1] + paper[k:]), False)
        for k in range(1, len(paper)):
            if lots[k] != lots[k - 1]:
                self.assertIs(accepts(claim, paper[:k - 1] + (paper[k], paper[k - 1]) + paper[k + 1:]), False)

    def test_order(self):
        ring, line, hyper = ("x^2 + y^2 - 1",), ("y - x",), ("x*y - 1",)
        self.check(text("[some y: x^2 + y^2 < 1] & some y: y = x"), [ring, line], "x")
        self.check(text("[some y: y = x] & some y: x^2 + y^2 < 1"), [line, ring], "x")
        self.check(text("[some y: y = x] & [some y: x*y = 1 | all y: x^2 + y^2 < 1]"), [line, hyper, ring], "x")
        self.check(text("all x: some y: x*y = 1"), [hyper])

    def test_letters_exchanged(self):
        self.check(text("some x: y = x^2"), [("x - y^2",)], "y")
        self.check(text("all x: [y > x^2 | y*x = 1 | x > 3 | y < 4]"), [("x - y^2", "x*y - 1", "y - 3", "x - 4")], "y")
        self.check(text("some y: y = x^2"), [("y - x^2",)], "x")

    def test_within_ahead(self):
        # The form of x that comes first stands for its ends; with letters exchanged these are lines.
        self.check(text("some x: [y > x & some y: x^2 + y^2 < 1]"), [("x^2 + y^2 - 1",), ("x - y", "y + 1", "y - 1")], "y")
        self.check(text("some x: [[some y: x^2 + y^2 < 1] & y > x]"), [("x^2 + y^2 - 1",), ("y + 1", "y - 1", "x - y")], "y")
        self.check(text("all y: [some x: [y > x & some y: x^2 + y^2 < 1] | y < 0]"), [("x^2 + y^2 - 1",), ("x - y", "y + 1", "y - 1")])

    def test_none_where_a_letter_alone_is_free_in_the_kernel(self):
        self.check(text("some x: [x^2 = 2 & x > 0]"), [])
        self.check(text("some y: [x^2 = 2 & x > 0]"), [], "x")
        self.check(text("all x: some x: x > y"), [("-x + y",)], "y")
        self.check(text("some x: [x > 1 & all y: y^2 + x^2 >= 0]"), [("x^2 + y^2",)])
        # all y: some y: .. has no form with ends, so x is alone then.
        self.check(text("some x: [x > y*0 + 3 & all y: y^2 + x^2 + 1 > 0]"), [("x^2 + y^2 + 1",)])
        self.check(text("some y: [x > 3 & 0*y = 0]"), [], "x")
        self.check(text("some x: [all y: y > x | x > 1]"), [("y - x",)])

    def test_numbers_have_no_place_in_a_lot(self):
        self.check(text("some y: [3 > 2 & y = x & 0 = 0 & y = x & x = 1]"), [("y - x", "x - 1")], "x")

    def test_ends_are_told_as_in_the_sheet(self):
        # The ends of the ring's shadow told by x x - 1 and x of a greater row: the outer lot has them as they stand.
        inner = ((), (poly("x^2 + y^2 - 2"),), ((1, (), (1,)),), (((6, 0, -5, 0, 1), 1), ROOT), ((-2, 1), (0, 1), (2, 1)), RING_STACKS)
        stacks = (((0, 1),), ((-2, 1), (2, 1)), ((-3, 1), (0, 1), (3, 1)), ((-2, 1), (2, 1)), ((0, 1),))
        inner = inner[:5] + (stacks,)
        saying = text("some x: [y > x & some y: x^2 + y^2 < 2]")
        self.assertTrue(naive_paper.is_sheet((poly("x^2 + y^2 - 2"),), inner))
        four, two = poly("y^4 - 5*y^2 + 6"), poly("y^2 - 2")
        outer_lot = (poly("x - y"), four, two)
        outer = sheet_of(outer_lot)
        form = (((TWO, 0),), (False, False, True))
        self.assertIs(accepts(("form", saying, "y", form), (inner, outer)), True)
        self.assertTrue(naive_paper.accepts(("form", saying, "y", form), (inner, outer)))
        for lot in ((poly("x - y"), two), (poly("x - y"), four), (poly("x - y"), two, four), (four, two, poly("x - y"))):
            self.assertIs(accepts(("form", saying, "y", form), (inner, sheet_of(lot))), False)

    def test_alike_has_the_sheets_twice(self):
        one, other = text("some y: [y^2 = x & y > 1]"), text("x > 1")
        claim, paper = certify_alike(one, other)
        self.assertEqual((claim, len(paper)), (("alike", one, other), 2))
        one, other = text("y > x & some y: y^2 = x"), text("y > x & x >= 0")
        claim, paper = certify_alike(one, other)
        self.assertEqual((claim[0], len(paper)), ("alike", 3))
        self.assertIs(accepts(claim, paper), True)
        self.assertIs(accepts(claim, paper[1:]), False)


class DeepTest(unittest.TestCase):
    def test_deeper_than_ten(self):
        deep = INSIDE
        while depth_of(deep) < 10:
            deep = ("not", deep)
        nothing = ("both", OUTSIDE, ("both", INSIDE, ("true",)))
        while depth_of(nothing) < 10:
            nothing = ("both", nothing, ("true",))
        for saying in (deep, nothing):
            for claim, paper in (certify_some(saying), certify_alike(saying, saying), certify_alike(saying, deep)):
                self.assertIs(accepts(claim, paper), True)
        self.assertEqual(certify_some(nothing)[0][0], "none")
        self.assertEqual(certify_some(deep)[0][0], "some")
        self.assertIs(accepts(("some", ("not", deep)), (((9, 1), (9, 1)), ())), False)
        self.assertIs(accepts(("none", ("both", nothing, nothing)), certify_some(nothing)[1]), False)

    def test_more_than_eight_polys(self):
        one, other = ("true",), ("true",)
        for k in range(8):
            one = ("either", one, ("below", poly(f"x - {k}"))) if k % 2 else ("both", one, ("not at", poly(f"y - {k}*x")))
            other = ("either", other, ("below", poly(f"x - {k}"))) if k % 2 else ("both", other, ("not at", poly(f"2*y - {2 * k}*x")))
        self.assertEqual((len(polys_of(one)), len(polys_of(other))), (8, 8))
        self.assertEqual(len(polys_of(("true",))), 0)
        claim, paper = certify_alike(one, other)
        self.assertEqual(claim[0], "alike")
        self.assertIs(accepts(claim, paper), True)
        self.assertFalse(is_saying(("both", one, other)))
        self.assertIs(accepts(("true", ("all", "x", ("all", "y", ("both", one, other)))), paper), False)


class PinsTest(unittest.TestCase):
    """[38]: pins, and what they tell."""

    def test_what_is_a_pin(self):
        low, high = (0, 1), (2, 1)
        for pin, truth in (
            (((1, 2), (0, 1)), True), ((ROOT, (7, 3)), True), (((1, 2), (low, high, RING)), True), (((0, 1), ((0, 1), (2, 1), RING)), True), (((0, 1), ((1, 1), (2, 1), RING)), False),
            (((0, 1), ((0, 1), (1, 1), RING)), False), (((0, 1), ((-2, 1), (2, 1), RING)), False), (((0, 1), ((2, 1), (3, 1), RING)), False), (((3, 1), (low, high, RING)), False),
            (((1, 1), ((-1, 1), (1, 1), RING)), True), (((1, 1), ((0, 1), (1, 1), RING)), False), (((0, 1), (low, high, SLANT)), False), (((1, 1), (low, high, SLANT)), True),
            (((0, 1), (high, low, RING)), False), (((0, 1), (low, low, RING)), False), (((0, 1), (low, high, ())), False), (((0, 1), (low, high, ((5,),))), False),
            (((0, 1), ((1, 1), (3, 1), poly("(y - 1)*(y - 2)"))), False), (((0, 1), ((0, 1), (2, 1), poly("(y - 1)*(y - 2)"))), False), (((0, 1), ((0, 1), (3, 2), poly("(y - 1)*(y - 2)"))), True),
            ((ROOT, ((0, 1), (2, 1), poly("(y - x)*(y - 2)"))), False), ((ROOT, ((0, 1), (2, 1), poly("(y - x)*y"))), False), (((0, 1), (low, high, ((0, 1),))), False), ((ROOT, ((1, 1), (2, 1), LINE)), True), ((ROOT, ((1, 1), (7, 5), LINE)), False), ((ROOT, ((7, 5), (3, 2), LINE)), True),
            ((ROOT, ((-3, 2), (3, 2), poly("y^2 - x^2"))), False), ((ROOT, ((0, 1), (3, 2), poly("(y - x)^2*(y + 3)"))), True), ((ROOT, ((1, 1), (2, 1), poly("(y - x)*(x^2 - 2)"))), False),
        ):
            self.assertIs(accepts(("some", ("true",)), (pin, ())), truth, pin)
            self.assertEqual(naive_paper.is_pin(pin), truth, pin)
        for value in ODD + [((0, 1),), ((0, 1), (0, 1), (0, 1)), [(0, 1), (0, 1)], ((0, 2), (0, 1)), ((0, 1), (2, 4)), ((0, 1), ROOT), ((0, 1), [low, high, RING]), ((0, 1), (low, high)),
                            ((0, 1), (low, high, RING, RING)), ((0, 1), (0, high, RING)), ((0, 1), (low, ROOT, RING)), ((0, 1), (low, (4, 2), RING)), ((0, 1), (low, high, list(RING))),
                            ((0, 1), (low, high, "y")), ((TWO, 2), (0, 1)), (naive.deep(29), (0, 1)), ((0, 1), naive.deep(29)), ((0, 1), (low, high, naive.deep(28))), ((0, True), (0, 1))]:
            self.assertIs(accepts(("some", ("true",)), (value, ())), False, value)
            self.assertFalse(naive_paper.is_pin(value), value)

    def told(self, words, pin):
        """Whether the saying is so there; None if it is not told."""
        saying = text(words)
        truths = [accepts(("some", each), (pin, ())) for each in (saying, ("not", saying))]
        self.assertNotEqual(truths, [True, True])
        found = True if truths[0] else False if truths[1] else None
        self.assertIs(truth_at_pin(Case(saying), opened_pin(pin)), found)
        self.assertIs(naive_paper.truth_pinned(saying, pin), found)
        return found

    def test_signs(self):
        # Over x = 0 the ring has the roots - 1 and 1; y = 1 is pinned.
        pin = ((0, 1), ((0, 1), (2, 1), RING))
        for words, truth in (
            ("x^2 + y^2 = 1", True), ("y = 1", True), ("y - 1 < 0", False), ("y^2 = 1", True), ("y > 0", None), ("y > -1", True), ("y < -1", False), ("y < 2", True), ("y < 3", True),
            ("y*(y - 1) = 0", True), ("y*(y + 1) > 0", None), ("2*y > 1", None), ("(y - 1)*(2*y - 1) = 0", None), ("(y - 1)^2 = 0", True), ("x*y = 0", True), ("x*(y - 1) > 0", False),
            ("(y - 2)*(y - 1) = 0", True), ("(y - 2)*(y + 5) < 0", True), ("y*(y - 2) < 0", None), ("y^2 + 1 > 0", True), ("3 > 2", True), ("y > -1 & y > 0", None), ("y > -1 | y > 0", None),
        ):
            self.assertIs(self.told(words, pin), truth, words)
        # Close to it more is told.
        self.assertIs(self.told("y > 0", ((0, 1), ((1, 2), (2, 1), RING))), True)
        self.assertIs(self.told("2*y > 1", ((0, 1), ((2, 3), (2, 1), RING))), True)
        self.assertIs(self.told("2*y > 1", ((0, 1), ((1, 2), (2, 1), RING))), None)
        self.assertIs(self.told("2*y > 3", ((0, 1), ((1, 2), (3, 2), RING))), False)

    def test_signs_over_a_number(self):
        pin = (ROOT, ((1, 1), (2, 1), LINE))
        for words, truth in (("y = x", True), ("y^2 = 2", True), ("y^2 = x^2", True), ("x^2 = 2", True), ("(x^2 - 2)*y > 0", False), ("y > 1", None), ("y < 2", True), ("y > 0", True),
                             ("5*y > 7", None), ("y^2 > x", None), ("x*y = 2", True), ("x*y^2 = 2*x", True)):
            self.assertIs(self.told(words, pin), truth, words)
        self.assertIs(self.told("y^2 > x", (ROOT, ((13, 10), (3, 2), LINE))), True)

    def test_fractions_tell_all(self):
        for pin in (((0, 1), (1, 1)), (ROOT, (3, 2))):
            for words in ("x^2 + y^2 = 1", "y > 0", "y > 1", "y = x", "(x^2 - 2)*y = 0", "2*y = 3", "x > 1"):
                self.assertIs(self.told(words, pin), truth_at(text(words), pin), words)

    def test_forms_of_x_and_of_y(self):
        saying = text("some x: x^2 + y^2 < 2")
        claim, paper = certify_form(saying, "y")
        form_x = text("some y: x^2 + y^2 < 2")
        _, paper_x = certify_form(form_x, "x")
        third, line = (1, 3), poly("y - 1")
        for pin, truth in (
            (((0, 1), (0, 1)), True), (((0, 1), (3, 2)), False), ((ROOT, (1, 1)), True), (((0, 1), ((0, 1), (2, 1), poly("y^2 - 2"))), False),
            (((0, 1), ((7, 5), (2, 1), poly("y^2 - 2"))), False), (((0, 1), ((0, 1), (2, 1), line)), None), (((0, 1), ((0, 1), (7, 5), line)), True),
            (((0, 1), ((3, 2), (2, 1), poly("5*y - 8"))), False), (((0, 1), (third, (4, 3), line)), True), (((0, 1), ((-2, 1), (4, 3), line)), None),
            ((ROOT, ((1, 1), (2, 1), LINE)), False), ((ROOT, ((1, 1), (2, 1), poly("x*y - 2"))), False),
        ):
            truths = [accepts(("some", each), (pin, paper)) for each in (saying, ("not", saying))]
            self.assertEqual(truths, [truth is True, truth is False], pin)
            self.assertEqual([naive_paper.accepts(("some", each), (pin, paper)) for each in (saying, ("not", saying))], truths)
        # Ends that are fractions: y up to them, and from them on, at a pin that ends there.
        saying = text("some x: x^2 + y^2 <= 1")
        claim, paper = certify_form(saying, "y")
        half = poly("2*y - 1")
        for pin, truth in ((((0, 1), ((0, 1), (1, 1), half)), True), (((0, 1), ((-1, 1), (1, 1), half)), None), (((0, 1), ((-1, 2), (1, 1), half)), True), (((0, 1), ((1, 1), (2, 1), poly("2*y - 3"))), None),
                           (((0, 1), ((5, 4), (2, 1), poly("2*y - 3"))), False), (((0, 1), ((-3, 1), (-1, 1), poly("y + 2"))), False), (((0, 1), ((1, 2), (2, 1), poly("y - 1"))), True)):
            truths = [accepts(("some", each), (pin, paper)) for each in (saying, ("not", saying))]
            self.assertEqual(truths, [truth is True, truth is False], pin)
            self.assertEqual([naive_paper.accepts(("some", each), (pin, paper)) for each in (saying, ("not", saying))], truths)
        for pin, truth in ((((0, 1), (5, 1)), True), ((ROOT, (0, 1)), False), (((TWO, 0), ((-2, 1), (-1, 1), LINE)), False), (((7, 5), ((0, 1), (2, 1), line)), True), (((3, 2), (0, 1)), False)):
            self.assertEqual([accepts(("some", each), (pin, paper_x)) for each in (form_x, ("not", form_x))], [truth, not truth], pin)


class CertifyTest(unittest.TestCase):
    def test_sentences(self):
        for lines, word, other in ((TRUE_SENTENCES, "true", "false"), (FALSE_SENTENCES, "false", "true")):
            for words in lines.strip().split("\n"):
                sentence = text(words)
                claim, paper = certify_truth(sentence)
                self.assertEqual(claim, (word, sentence), words)
                self.assertIs(accepts(claim, paper), True, words)
                self.assertIs(accepts((other, sentence), paper), False)

    def test_forms(self):
        for words, letter, ends, _ in FORMS:
            if ends is not None:
                claim, paper = certify_form(text(words), letter)
                self.assertTrue(do_fit(claim[3], form_of(text(words), letter)), words)
                self.assertIs(accepts(claim, paper), True, words)

    def random_ones(self, luck, many):
        while many:
            pool = [random_poly(luck, 2, 2, 2) for _ in range(luck.randint(1, 3))]
            one, other = random_saying(luck, 4, pool), random_saying(luck, 3, pool)
            if is_saying(one) and is_saying(other) and is_saying(("both", one, other)):
                many -= 1
                yield one, luck.choice([other, other, ("not", ("not", one))])

    def test_all_by_luck(self):
        luck = random.Random(391)
        seen = {}
        for one, other in self.random_ones(luck, 120):
            some, paper = certify_some(one)
            self.assertEqual(some, ("none" if some_place(one) is None else "some", one))
            self.assertIs(accepts(some, paper), True)
            self.assertIs(accepts(("some" if some[0] == "none" else "none", one), paper), False)
            alike, paper = certify_alike(one, other)
            self.assertEqual(alike, ("alike" if are_alike(one, other) else "unlike", one, other))
            self.assertIs(accepts(alike, paper), True)
            self.assertIs(accepts(("alike" if alike[0] == "unlike" else "unlike", one, other), paper), False)
            for letter, away in (("x", "y"), ("y", "x")):
                saying = (luck.choice(["all", "some"]), away, one)
                form, paper = certify_form(saying, letter)
                self.assertEqual(form[:3], ("form", saying, letter))
                self.assertTrue(do_fit(form[3], form_of(saying, letter)))
                self.assertIs(accepts(form, paper), True)
                truths = form[3][1]
                self.assertIs(accepts(form[:3] + ((form[3][0], tuple(not truth for truth in truths)),), paper), False)
            for word in (some[0], alike[0]):
                seen[word] = seen.get(word, 0) + 1
        self.assertGreaterEqual(min(seen.values()), 10)
        self.assertEqual(sorted(seen), ["alike", "none", "some", "unlike"])

    def test_spoilt_by_luck(self):
        luck = random.Random(392)
        told = {True: 0, False: 0}
        for one, other in self.random_ones(luck, 60):
            pairs = [certify_some(one), certify_alike(one, other), certify_form(("some", "y", one), "x"), certify_truth(("all", "x", ("some", "y", one)))]
            for claim, paper in pairs:
                for _ in range(5):
                    wrong = (spoilt(luck, claim), paper) if luck.random() < 0.2 or paper == () else (claim, spoilt(luck, paper))
                    truth = naive_paper.accepts(*wrong)
                    self.assertIs(accepts(*wrong), truth, wrong)
                    told[truth] += 1
                mixed = (claim, luck.choice(pairs)[1])
                self.assertIs(accepts(*mixed), naive_paper.accepts(*mixed), mixed)
        self.assertGreater(min(told.values()), 50)

    def test_pins_at_roots(self):
        for words in ("x^2 = 2 & y^2 = 3 & x < 0", "x^2 + y^2 = 1 & x = y", "x^4 + y^4 = 1 & x*y = 0 & y < 0", "y^3 = x & x^2 = 2 & y > 0", "x*(y^2 - x) = 0 & x^2 = 2 & y < 0",
                      "(x^2 - 2)*y = 0 & x*y = x^2 & y > 0", "[some x: x^2 + y^2 <= 2] & y^2 = 2 & x = y"):
            claim, paper = certify_some(text(words))
            self.assertEqual(claim[0], "some", words)
            self.assertIs(accepts(claim, paper), True, words)
            self.assertTrue(naive_paper.accepts(claim, paper), words)

    def test_refused(self):
        many = balanced([("below", poly(f"x - {k}")) for k in range(9)])
        for function, more in ((certify_truth, ()), (certify_form, ("x",)), (certify_some, ()), (certify_alike, (INSIDE,))):
            with self.assertRaises(TooMany) as caught:
                function(many, *more)
            self.assertEqual(caught.exception.given, 9)
        with self.assertRaises(TooMany):
            certify_alike(INSIDE, many)
        for value in (INSIDE, SOME_Y):
            with self.assertRaises(InvalidSaying) as caught:
                certify_truth(value)
            self.assertIs(caught.exception.given, value)
        for saying, letter in ((SOME_Y, "y"), (SOME_X, "x"), (INSIDE, "x"), (INSIDE, "y"), (("true",), "z"), (SOME_Y, None), (SOME_Y, ["x"])):
            with self.assertRaises(InvalidLetter) as caught:
                certify_form(saying, letter)
            self.assertIs(caught.exception.given, letter)
        with self.assertRaises(InvalidLetter):
            certify_form(INSIDE, 5)
        with self.assertRaises(InvalidSaying):
            certify_form(None, 5)

    def test_nothing_changes_and_equal_calls_are_alike(self):
        for function, values in ((certify_truth, [("all", "x", SOME_Y)]), (certify_form, [SOME_Y, "x"]), (certify_some, [NOTHING]), (certify_alike, [INSIDE, SOME_Y])):
            before = copy.deepcopy(values)
            first = function(*values)
            self.assertEqual(repr(function(*values)), repr(first))
            self.assertEqual(values, before)
            paper = copy.deepcopy(first)
            self.assertIs(accepts(*first), True)
            self.assertEqual(first, paper)
        claim, paper = ["true", ("true",)], [[]]
        self.assertIs(accepts(claim, paper), False)
        self.assertEqual((claim, paper), (["true", ("true",)], [[]]))


def balanced(parts):
    if len(parts) == 1:
        return parts[0]
    half = len(parts) // 2
    return ("either", balanced(parts[:half]), balanced(parts[half:]))


if __name__ == "__main__":
    unittest.main()
