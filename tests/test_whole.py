"""[2]: what is told of one saying by all parts of the program agrees."""

import random
import unittest
from math import gcd

from tests.some_regions import random_regions, told_regions
from twoletters.cells import cell_of, is_within, place_in, signs_on
from twoletters.certificates import certify_alike, certify_form, certify_some, certify_truth, sheet_of
from twoletters.charts import chart_of, full_lot
from twoletters.checker import accepts, is_sheet
from twoletters.console import run
from twoletters.forms import do_fit, either, is_so_of, opposite
from twoletters.numbers import order
from twoletters.pictures import letters, picture_bytes
from twoletters.pieces import are_joined, holes_of, piece_at, piece_place, pieces_of
from twoletters.places import is_place, sign_at
from twoletters.printer import form_text, saying_text
from twoletters.reader import read_saying, read_scene
from twoletters.regions import cells_in, closure_of, inner_of
from twoletters.sayings import exchanged, is_saying, polys_of, pushed
from twoletters.shadows import exchanged_place, lines_with, shadow_of_piece, stretches_at, y_of
from twoletters.truths import are_alike, does_follow, form_of, is_true, parting_place, some_place, truth_at

TEXTS = [text for text, _, _ in told_regions()][::3] + [
    "x^2 + y^2 < 1 & not x <= y", "some y: [x^2 + y^2 < 2 & x + y > 0]", "all y: [y^2 != 2 | x > y]", "[some y: y^2 = x] & y > 0", "x*y > 1 | some x: [x^2 = 2 & y > x]", "[all x: x^2 + x*y + 1 > 0] & x^2 < 2",
    "y^2 = x^3 - x | some y: [y^2 = x & y < x - 3]", "not [some x: x^2 + y^2 <= 1] | x = y",
]


def sayings():
    luck = random.Random(22)
    return [read_saying(text) for text in TEXTS] + list(random_regions(luck, 12, 3)) + list(random_regions(luck, 8, 3, True))


class WholeTest(unittest.TestCase):
    def test_texts(self):
        for saying in sayings():
            text = saying_text(saying)
            self.assertEqual(read_saying(text), saying)
            self.assertEqual(run((f"s := {text}", "show s", "strike s")), ("done", text, "done"))
            self.assertEqual(read_scene(f"let s = {text}; [s] & [s]"), ("both", saying, saying))
            self.assertTrue(are_alike(saying, pushed(saying)))
            self.assertEqual(pieces_of(saying), pieces_of(pushed(saying)))

    def test_places_cells_and_truths(self):
        luck = random.Random(24)
        for saying in sayings():
            polys, ends, stacks, truths = chart_of(saying)
            if len(polys) > 8:
                continue
            cells = [(column, level) for column, each in enumerate(truths) for level in range(len(each))]
            for cell in luck.sample(cells, min(12, len(cells))):
                truth = truths[cell[0]][cell[1]]
                place = place_in(polys, cell)
                self.assertTrue(is_place(place))
                self.assertEqual(cell_of(polys, place), cell)
                self.assertIs(truth_at(saying, place), truth)
                self.assertEqual(tuple(sign_at(poly, place) for poly in polys), signs_on(polys, cell))
                self.assertEqual(is_within(polys, cell, polys[:1]), cell_of(polys[:1], place))
                self.assertIs(cell in cells_in(saying), truth)
                self.assertIs(piece_at(saying, place) is not None, truth)
                self.assertIs(truth_at(exchanged(saying), exchanged_place(place)), truth)
                self.assertEqual(order(exchanged_place(place)[0], y_of(place)), 0)

    def test_some_and_all(self):
        for saying in sayings():
            place, cells = some_place(saying), cells_in(saying)
            claim, paper = certify_some(saying)
            self.assertEqual((place is None, claim[0] == "none", pieces_of(saying) == ()), (cells == (),) * 3)
            self.assertIs(accepts(claim, paper), True)
            if place is not None:
                self.assertIn(piece_at(saying, place), range(len(pieces_of(saying))))
                self.assertTrue(are_joined(saying, place, piece_place(saying, piece_at(saying, place))))
            whole = ("all", "x", ("all", "y", saying))
            if is_saying(whole):
                is_all = all(all(each) for each in chart_of(saying)[3])
                self.assertEqual(is_true(whole), is_all)
                claim, paper = certify_truth(whole)
                self.assertEqual(claim[0], "true" if is_all else "false")
                self.assertIs(accepts(claim, paper), True)
                self.assertEqual(are_alike(saying, ("true",)), is_all)

    def test_forms_and_shadows(self):
        for saying in sayings():
            for letter, other in (("x", "y"), ("y", "x")):
                if not is_saying(("some", other, saying)):
                    continue
                told = form_of(("some", other, saying), letter)
                claim, paper = certify_form(("some", other, saying), letter)
                self.assertTrue(do_fit(claim[3], told))
                self.assertIs(accepts(claim, paper), True)
                whole = ((), (False,))
                for index in range(len(pieces_of(saying))):
                    whole = either(whole, shadow_of_piece(saying, index, letter))
                self.assertTrue(do_fit(whole, told))
                if letter == "x":
                    self.assertTrue(do_fit(opposite(lines_with(saying, 0)), told))
                    for number in ((0, 1), (1, 1), ((-2, 0, 1), 1)):
                        self.assertEqual(is_so_of(told, number), stretches_at(saying, number) > 0)
                line = f"s := some {other}: [{saying_text(saying)}]"
                answers = run((line, "free s", "form s"))
                self.assertEqual(answers[2], form_text("y" if answers[1] == "y" else "x", form_of(("some", other, saying), "y" if answers[1] == "y" else "x")))

    def test_pictures(self):
        low, high = ((-5, 2), (-2, 1)), ((3, 2), (9, 4))
        for saying in sayings():
            rows = letters(saying, low, high, 6)
            self.assertEqual(run((f"s := {saying_text(saying)}", "letters s -5/2 -2 3/2 9/4 6"))[1], "\n".join(rows))
            polys, _, _, truths = chart_of(saying)
            told = picture_bytes(saying, low, high, 6)
            for i in range(6):
                for j in range(6):
                    x, y = -60 + 16 * j + 8, 54 - 17 * i
                    place = (reduced(x, 24), reduced(2 * y - 17, 48))
                    truth = truth_at(saying, place)
                    self.assertEqual(rows[i][j], "#" if truth else ".")
                    self.assertEqual(told[48 + 7 * i + 1 + j], 0 if truth else 255)
                    if len(polys) <= 8:
                        column, level = cell_of(polys, place)
                        self.assertIs(truths[column][level], truth)

    def test_two_sayings(self):
        luck = random.Random(23)
        told = sayings()
        for _ in range(40):
            one = luck.choice(told)
            other = luck.choice([luck.choice(told), pushed(one), ("not", ("not", one))])
            if not is_saying(other) or not is_saying(("both", one, ("not", other))):
                continue
            place = parting_place(one, other)
            claim, paper = certify_alike(one, other)
            self.assertEqual(claim[0], "alike" if place is None else "unlike")
            self.assertIs(accepts(claim, paper), True)
            self.assertEqual(place is None, does_follow(one, other) and does_follow(other, one))
            self.assertEqual(pieces_of(("both", one, ("not", other))) == (), does_follow(one, other))
            if place is not None:
                self.assertNotEqual(piece_at(one, place) is None, piece_at(other, place) is None)

    def test_sheets_of_lots(self):
        for saying in sayings():
            lot = polys_of(saying)
            self.assertIs(is_sheet(lot, sheet_of(lot)), True)
            self.assertLessEqual(len(full_lot(lot)), 9)

    def test_the_parts_of_a_region(self):
        for saying in sayings():
            inner, closure = set(inner_of(saying)), set(closure_of(saying))
            self.assertTrue(inner <= set(cells_in(saying)) <= closure)
            for hole in holes_of(saying):
                self.assertFalse(set(hole) & set(cells_in(saying)))


def reduced(n, m):
    shared = gcd(n, m)
    return (n // shared, m // shared)


if __name__ == "__main__":
    unittest.main()
