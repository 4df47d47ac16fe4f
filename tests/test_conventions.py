"""[3], [4], [5]: how all functions are called, and what they refuse."""

import copy
import importlib
import inspect
import unittest

from tests.naive import deep
from tests.test_sayings import NO_SAYING
from twoletters import errors

TWO, UNIT, FOUR = (-2, 0, 1), (-1, 0, 1), (6, 0, -5, 0, 1)
ROOT = (TWO, 1)
CIRCLE, LINE = ((-1, 0, 1), (), (1,)), ((0, -1), (1,))
FORM = ((ROOT,), (False, True, True))
LONG = tuple(range(-12, 13))
HUGE = tuple((-7) ** k * 10 ** (99 - k) for k in range(25))
ODD = [
    None, True, False, 0, 1, -5, "", "x", "below ", b"ab", [], [1], [[]], {}, {1: 2}, {"a": ()}, object(), int,
    (None,), ("a",), ((), ()), ((), {}), (True,), (1, True), (1, 0), ((1,), [2]), [(1, 2)], [(1,), (2,)], deep(30),
    (deep(28), 1), (1, deep(28)), ([1, 2], 1),
]
NO_ROW = [value for value in ODD if value not in ((),)] + [(0,), (1, 2, 0), (1, (2,)), ([1],), "12", (1, False)]
NO_FRACTION = ODD + [(), (2, 4), (0, 2), (1, -2), (3,), (1, 2, 3), (1, "2"), (True, 1), (1, True), [1, 2], (10, 5), ((1, 2), 3)]
NO_NUMBER = NO_FRACTION + [
    (TWO, 2), (TWO, -1), (TWO, True), (TWO, False), (TWO, None), (TWO,), (TWO, 1, 1), [TWO, 1], (list(TWO), 1),
    ((-2, 0, True), 1), (UNIT, 0), (UNIT, 1), ((-4, 0, 2), 1), ((2, 0, -1), 1), ((4, 0, -4, 0, 1), 1), ((1, 0, 1), 0),
    ((-2, 1), 0), ((2,), 0), ((), 0), ((2, -2, -1, 1), 1), ((-2, 0, 1, 0), 1), (1, TWO), (ROOT, 1), (TWO, (1, 1)),
]
NO_FORM = ODD + [
    (), ((), ()), ((), (1,)), ((), [True]), ([], (True,)), ((), (True, True)), [(), (True,)], ((), (True,), ()),
    ((ROOT,), (True, True, True)), ((ROOT,), (False, True)), ((ROOT,), (0, 1, 1)), (((2, 2),), (True, False, True)),
    ((ROOT, ROOT), (True, False, True, False, True)), ((ROOT, (1, 1)), (True, False, True, False, True)),
    ((ROOT, (FOUR, 2)), (True, False, True, False, True)), (((1, 1), (2, 1)), (True, False, True, True, True)),
]
NO_MANY = ODD[:3] + [value for value in ODD if value != 1] + [10 ** 6 + 1, 10 ** 90, (1, 1), 1 << 20]
NO_RELATION = ODD + ["Below", "not  at", "under", ("at",), ["at"]]
NO_POLY = [value for value in ODD if value not in ((),)] + [
    (1,), ((1,), ()), ((1, 0),), ([1],), [(1,)], ((True,),), ((1,), (0,)), (((1,),),), ((1,), None), TWO, "ab",
]
NO_LETTER = ODD[:6] + ["z", "X", "xy", "", ("x",), ["x"], b"x", 0, True, {}, deep(30)]
NO_PLACE = NO_FRACTION + [
    (ROOT, (CIRCLE, 0)), (ROOT, ((), 0)), (ROOT, (LINE, True)), (ROOT, (LINE, 1)), (ROOT, (LINE,)), [ROOT, (0, 1)], (ROOT, [0, 1]),
    (ROOT, (2, 4)), ((TWO, 2), (0, 1)), ((0, 2), (0, 1)), (ROOT, ROOT), ((0, 1), (0, 1), (0, 1)), (ROOT, (((-2, 0, 1),), 0)), (ROOT, (list(LINE), 0)),
]
NO_TEXT = [value for value in ODD if not isinstance(value, str)]
INSIDE, OVER = ("below", CIRCLE), ("not above", LINE)
CLOSED = ("all", "x", ("some", "y", ("either", INSIDE, ("not", OVER))))
SAYINGS = [INSIDE, ("both", INSIDE, ("not", OVER)), ("some", "y", INSIDE), CLOSED, ("true",), ("at", ()), ("not", ("at", ((10 ** 99,),)))]
SENTENCES = [CLOSED, ("true",), ("some", "x", ("some", "y", INSIDE)), ("above", ((3,),)), ("at", ())]
PLACES = [((0, 1), (0, 1)), (ROOT, (LINE, 0)), (((-1, 0, 2), 1), (CIRCLE, 1)), ((1, 2), (CIRCLE, 0)), (ROOT, (7, 5))]
NUMBERS = [(0, 1), (-7, 3), ROOT, (FOUR, 2), (10 ** 99 + 1, 10 ** 99), ((-(10 ** 98), 0, 0, 1), 0)]
KINDS = {
    "row": (errors.InvalidRow, [TWO, (), (5,), LONG, HUGE], NO_ROW),
    "some row": (errors.InvalidRow, [TWO, (5,), LONG, HUGE], NO_ROW + [()]),
    "fraction": (errors.InvalidFraction, [(0, 1), (-3, 2), (10 ** 99, 7)], NO_FRACTION),
    "end": (errors.InvalidFraction, [(0, 1), None, (3, 2)], [value for value in NO_FRACTION if value is not None]),
    "number": (errors.InvalidNumber, NUMBERS, NO_NUMBER),
    "form": (errors.InvalidForm, [((), (True,)), FORM, (((0, 1), (FOUR, 2)), (True, False, False, True, False))], NO_FORM),
    "many": (errors.InvalidCount, [1, 10 ** 6, 7], NO_MANY),
    "count": (errors.InvalidCount, [0, 1, 10 ** 6], [value for value in NO_MANY if isinstance(value, bool) or value != 0]),
    "relation": (errors.InvalidRelation, ["below", "at", "above", "not below", "not at", "not above"], NO_RELATION),
    "poly": (errors.InvalidPoly, [CIRCLE, LINE, (), ((3,),), (TWO,), ((), (), LONG)], NO_POLY),
    "some poly": (errors.InvalidPoly, [CIRCLE, LINE, ((3,),), (TWO,)], NO_POLY + [()]),
    "place": (errors.InvalidPlace, PLACES, NO_PLACE),
    "saying": (errors.InvalidSaying, SAYINGS, ODD + NO_SAYING),
    "closed saying": (errors.InvalidSaying, SENTENCES, ODD + NO_SAYING),
    "sentence": (errors.InvalidSaying, SENTENCES, ODD + NO_SAYING + [INSIDE, ("some", "x", INSIDE), ("at", ((0, 1),))]),
    "letter": (errors.InvalidLetter, ["x", "y"], NO_LETTER),
    "steep poly": (errors.InvalidPoly, [CIRCLE, LINE, ((), (0, 1))], NO_POLY + [(), ((3,),), (TWO,)]),
}
PAIR, ROW = [("row", "row"), ("other", "row")], [("row", "row")]
TWO_NUMBERS = [("number", "number"), ("other", "number")]
TWO_POLYS = [("poly", "poly"), ("other", "poly")]
TWO_FORMS = [("form", "form"), ("other", "form")]
OVER = [("poly", "poly"), ("number", "number")]
SAYING = [("saying", "saying")]
TWO_SAYINGS = SAYING + [("other", "saying")]
TWO_PLACES = SAYING + [("place", "place"), ("other", "place")]
REGIONS_OF_SAYINGS = "cells_in closure_of inner_of rim_of is_open is_closed is_bounded dimension euler_number".split()
FUNCTIONS = {
    "places": {"sign_at": [("poly", "poly"), ("place", "place")], "meets": TWO_POLYS},
    "sayings": {
        "depth_of": SAYING, "polys_of": SAYING, "free_letters": SAYING, "exchanged": SAYING, "pushed": SAYING,
        "put_for": SAYING + [("letter", "letter"), ("fraction", "fraction")],
    },
    "truths": {
        "is_true": [("sentence", "sentence")], "form_of": [("saying", "closed saying"), ("letter", "letter")],
        "truth_at": SAYING + [("place", "place")], "some_place": SAYING, "are_alike": TWO_SAYINGS,
        "parting_place": TWO_SAYINGS, "does_follow": TWO_SAYINGS, "breaking_place": TWO_SAYINGS,
    },
    "certificates": {
        "certify_truth": [("sentence", "sentence")], "certify_form": [("saying", "closed saying"), ("letter", "letter")],
        "certify_some": SAYING, "certify_alike": TWO_SAYINGS,
    },
    "regions": {name: SAYING for name in REGIONS_OF_SAYINGS},
    "pieces": {"pieces_of": SAYING, "piece_at": SAYING + [("place", "place")], "holes_of": SAYING, "nesting_of": SAYING, "way_between": TWO_PLACES, "are_joined": TWO_PLACES},
    "shadows": {"stretches_at": SAYING + [("number", "number")], "lines_with": SAYING + [("count", "count")]},
    "printer": {
        "poly_text": [("poly", "poly")], "saying_text": SAYING, "number_text": [("number", "number")],
        "form_text": [("letter", "letter"), ("form", "form")],
    },
    "rows": {
        "plus": PAIR, "less": PAIR, "times": PAIR, "derivative": ROW, "prime_part": ROW, "common": PAIR,
        "value_at": [("row", "row"), ("fraction", "fraction")], "over": [("row", "row"), ("other", "some row")],
        "plain": [("row", "some row")], "put_in": [("row", "row"), ("other", "row")],
    },
    "roots": {
        "count_roots": [("row", "some row"), ("low", "end"), ("high", "end")],
        "roots_of": [("row", "some row")], "held_apart": [("row", "some row")],
    },
    "numbers": {
        "order": TWO_NUMBERS, "sign_in": [("row", "row"), ("number", "number")],
        "near": [("number", "number"), ("many", "many")], "between": TWO_NUMBERS, "number_plus": TWO_NUMBERS,
        "number_times": TWO_NUMBERS, "number_in": [("row", "row"), ("number", "number")],
    },
    "forms": {
        "form_of_row": [("row", "row"), ("relation", "relation")],
        "is_so_of": [("form", "form"), ("number", "number")], "opposite": [("form", "form")], "both": TWO_FORMS,
        "either": TWO_FORMS, "do_fit": TWO_FORMS, "parting_number": TWO_FORMS, "is_ever": [("form", "form")],
        "is_always": [("form", "form")], "some_number": [("form", "form")], "least_of": [("form", "form")],
    },
    "polys": {
        "poly_sum": TWO_POLYS, "poly_product": TWO_POLYS, "exchanged": [("poly", "poly")],
        "derived": [("poly", "poly")], "common": TWO_POLYS,
        "value_at": [("poly", "poly"), ("x", "fraction"), ("y", "fraction")],
        "at_x": [("poly", "poly"), ("x", "fraction")], "at_y": [("poly", "poly"), ("y", "fraction")],
        "content": [("poly", "some poly")], "bare": [("poly", "some poly")],
        "resultant": [("poly", "some poly"), ("other", "some poly")], "discriminant": [("poly", "steep poly")],
    },
    "over": {
        "split": [("number", "number"), ("row", "row")], "degree_at": OVER, "many_roots": OVER,
        "roots_between": OVER + [("low", "fraction"), ("high", "fraction")],
        "many_common": TWO_POLYS + [("number", "number")],
    },
}
OTHERS = {
    "rows": ["is_row"], "numbers": ["is_number"], "signs": ["signs_by_roots", "signs_by_rests", "ends_of"],
    "forms": ["is_form", "made_form"], "polys": ["is_poly", "core_of", "turns_of"],
    "stacks": ["stack_of", "fraction_on"], "places": ["is_place", "order_over", "fraction_over"],
    "cells": ["cells_of", "how_many", "cell_of", "signs_on", "place_in", "is_within"], "sayings": ["is_saying"],
    "words": ["words_of", "is_free_name"], "reader": ["read_saying", "read_scene", "read_book"],
    "certificates": ["certify_truth", "certify_form", "certify_some", "certify_alike", "sheet_of"], "checker": ["is_sheet", "accepts"],
    "pictures": ["letters", "picture_bytes"], "console": ["run"],
    "charts": ["full_lot", "chart_of", "goals_of", "dimension_of", "does_rim", "is_bounded_cell"],
    "shadows": ["y_of", "exchanged_place"],
}
# Degrees that are great for both arguments ask for far too much time where resultants are taken of them.
SLOW = ("number_plus", "number_times", "number_in", "put_in")


def told_functions():
    for module, functions in FUNCTIONS.items():
        for name, told in functions.items():
            yield getattr(importlib.import_module(f"twoletters.{module}"), name), told


def good_calls(function, told):
    """Some lists of arguments."""
    many = max(len(KINDS[kind][1]) for _, kind in told)
    for k in range(many):
        values = [KINDS[kind][1][(k + at) % len(KINDS[kind][1])] for at, (_, kind) in enumerate(told)]
        if function.__name__ in SLOW and sum(len(str(value)) > 300 for value in values):
            continue
        yield values


class ConventionsTest(unittest.TestCase):
    def test_signatures(self):
        for function, told in told_functions():
            self.assertEqual(list(inspect.signature(function).parameters), [name for name, _ in told])

    def test_each_is_defined_where_it_is_listed(self):
        for names in (FUNCTIONS, OTHERS):
            for module, functions in names.items():
                for name in functions:
                    function = getattr(importlib.import_module(f"twoletters.{module}"), name)
                    self.assertEqual(function.__module__, f"twoletters.{module}")

    def test_by_position_and_by_name_and_once_again(self):
        for function, told in told_functions():
            for values in good_calls(function, told):
                before = copy.deepcopy(values)
                first = function(*values)
                named = dict(zip([name for name, _ in told], values))
                self.assertEqual(function(**dict(reversed(named.items()))), first, function.__name__)
                self.assertEqual(function(*values), first, function.__name__)
                self.assertEqual(repr(function(*values)), repr(first), function.__name__)
                self.assertEqual(values, before, function.__name__)

    def test_each_wrong_argument_is_refused(self):
        for function, told in told_functions():
            for at, (name, kind) in enumerate(told):
                error, _, wrong = KINDS[kind]
                for value in wrong:
                    values = [KINDS[each][1][0] for _, each in told]
                    values[at] = value
                    with self.assertRaises(error, msg=f"{function.__name__} {name} {value!r}") as caught:
                        function(*values)
                    self.assertIs(type(caught.exception), error)
                    self.assertIs(caught.exception.given, value)

    def test_the_first_wrong_argument_is_told(self):
        for function, told in told_functions():
            for at, (_, kind) in enumerate(told):
                error, _, wrong = KINDS[kind]
                values = [KINDS[each][1][0] for _, each in told[:at]] + [KINDS[each][2][0] for _, each in told[at:]]
                values[at] = wrong[-1]
                with self.assertRaises(error) as caught:
                    function(*values)
                self.assertIs(caught.exception.given, wrong[-1], function.__name__)

    def test_nought_is_refused_ahead_of_what_stands_behind(self):
        from twoletters.roots import count_roots
        from twoletters.rows import over
        with self.assertRaises(errors.InvalidRow) as caught:
            count_roots((), (2, 2), "x")
        self.assertEqual(caught.exception.given, ())
        with self.assertRaises(errors.InvalidRow) as caught:
            over([], ())
        self.assertEqual(caught.exception.given, [])

    def test_what_is_one_takes_any_value(self):
        kinds = (("rows", "row"), ("numbers", "number"), ("forms", "form"), ("polys", "poly"), ("places", "place"), ("sayings", "saying"))
        for module, kind in kinds:
            function = getattr(importlib.import_module(f"twoletters.{module}"), f"is_{kind}")
            for value in KINDS[kind][1]:
                self.assertIs(function(value), True, value)
                self.assertIs(function(value=value), True, value)
            for value in KINDS[kind][2]:
                self.assertIs(function(value), False, value)


class TuplesTest(unittest.TestCase):
    """Tuples of rows and of POLYs, and the parts of forms."""

    def check(self, functions, name, error, good, wrong):
        for function in functions:
            self.assertEqual(list(inspect.signature(function).parameters), [name])
            for value in good:
                self.assertEqual(function(value), function(**{name: value}))
            for value, index in wrong:
                with self.assertRaises(error, msg=f"{function.__name__} {value!r}") as caught:
                    function(value)
                self.assertEqual(caught.exception.index, index, (function.__name__, value))
                self.assertIsNot(caught.exception.index, False)

    def test_rows(self):
        from twoletters.signs import ends_of, signs_by_rests, signs_by_roots
        wrong = [(value, None) for value in ODD if not isinstance(value, tuple)]
        wrong += [((TWO,) * 7, None), (([],) * 7, None), ([TWO], None), ((TWO, [1], 5), 1), ((5,), 0), ((True,), 0)]
        wrong += [((TWO, TWO, (1, 0)), 2), ((TWO, (True,)), 1), (deep(30), 0), (("",), 0), (((),) * 5 + (None,), 5)]
        good = [(), (TWO,) * 6, ((), (3,)), (TWO, UNIT)]
        self.check([ends_of, signs_by_rests, signs_by_roots], "rows", errors.InvalidRows, good, wrong)

    def wrong_polys(self):
        wrong = [(value, None) for value in ODD if not isinstance(value, tuple)]
        wrong += [((LINE,) * 9, None), ((None,) * 9, None), ([LINE], None), ((LINE, [LINE], 5), 1), ((TWO,), 0)]
        return wrong + [((LINE, (), ((1,), ())), 2), (((), ((True,),)), 1), (deep(30), 0), ((CIRCLE,) * 7 + ("a",), 7)]

    def test_polys(self):
        from twoletters.cells import cells_of, how_many
        from twoletters.polys import core_of, turns_of
        good = [(), (LINE,) * 8, ((), ((3,),)), (CIRCLE, LINE)]
        self.check([core_of, turns_of, cells_of, how_many], "polys", errors.InvalidPolys, good, self.wrong_polys())

    def test_polys_ahead_of_others(self):
        from twoletters.cells import cell_of, is_within, place_in, signs_on
        from twoletters.stacks import fraction_on, stack_of
        lot, cell = (CIRCLE, LINE), (4, 3)
        calls = [
            (stack_of, {"polys": lot, "number": ROOT}), (fraction_on, {"polys": lot, "number": ROOT, "level": 2}),
            (cell_of, {"polys": lot, "place": PLACES[2]}), (signs_on, {"polys": lot, "cell": cell}),
            (place_in, {"polys": lot, "cell": cell}), (is_within, {"polys": lot, "cell": cell, "others": (LINE,)}),
        ]
        for function, named in calls:
            self.assertEqual(list(inspect.signature(function).parameters), list(named))
            before = copy.deepcopy(named)
            self.assertEqual(repr(function(**dict(reversed(named.items())))), repr(function(*named.values())))
            self.assertEqual(named, before)
            for value, index in self.wrong_polys():
                with self.assertRaises(errors.InvalidPolys, msg=f"{function.__name__} {value!r}") as caught:
                    function(value, *[None] * (len(named) - 1))
                self.assertEqual(caught.exception.index, index)

    def test_the_number_ahead_of_the_level(self):
        from twoletters.cells import cell_of
        from twoletters.stacks import fraction_on, stack_of
        for value in NO_NUMBER:
            for function, rest in ((stack_of, ()), (fraction_on, (None,))):
                with self.assertRaises(errors.InvalidNumber) as caught:
                    function((LINE,), value, *rest)
                self.assertIs(caught.exception.given, value)
        for value in NO_PLACE:
            with self.assertRaises(errors.InvalidPlace) as caught:
                cell_of((LINE,), value)
            self.assertIs(caught.exception.given, value)

    def test_places_over_one_x(self):
        from twoletters.places import fraction_over, order_over
        for function in (order_over, fraction_over):
            self.assertEqual(list(inspect.signature(function).parameters), ["place", "other"])
            one, other = (ROOT, (LINE, 0)), (ROOT, (1, 2))
            self.assertEqual(function(other=other, place=one), function(one, other))
            for value in NO_PLACE:
                for values in ((value, None), (one, value)):
                    with self.assertRaises(errors.InvalidPlace) as caught:
                        function(*values)
                    self.assertIs(caught.exception.given, value)

    def test_texts(self):
        from twoletters.reader import read_book, read_saying, read_scene
        from twoletters.words import words_of
        for function, text in ((words_of, "a b"), (read_saying, "x < y"), (read_scene, "let a = x < 1; a"), (read_book, "let a = x < 1;")):
            self.assertEqual(list(inspect.signature(function).parameters), ["text"])
            self.assertEqual(function(text), function(text=text))
            for value in NO_TEXT:
                with self.assertRaises(errors.BadText) as caught:
                    function(value)
                self.assertIs(caught.exception.spot, None)

    def test_made_form(self):
        from twoletters.forms import made_form
        self.assertEqual(list(inspect.signature(made_form).parameters), ["ends", "truths"])
        self.assertEqual(made_form(truths=(True, False, True), ends=(ROOT,)), ((ROOT,), (True, False, True)))
        wrong = [value for value in ODD if value != ()] + [((1, 1), (1, 1)), ((2, 1), ROOT), [ROOT], (ROOT, (FOUR, 2)), ROOT]
        for value in wrong:
            for truths in ((True,), None, ()):
                with self.assertRaises(errors.InvalidForm) as caught:
                    made_form(value, truths)
                self.assertIs(caught.exception.given, value)
        for truths in ODD + [(True, True), (True,), [True] * 3, (True, 1, True), (0, 0, 0), (True,) * 5, "abc"]:
            with self.assertRaises(errors.InvalidForm) as caught:
                made_form((ROOT,), truths)
            self.assertIs(caught.exception.given, truths)


if __name__ == "__main__":
    unittest.main()
