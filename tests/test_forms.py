"""[11], [12]: forms."""

import random
import unittest

from twoletters.forms import (
    both, do_fit, either, form_of_row, is_always, is_ever, is_form, is_so_of, least_of, made_form, opposite,
    parting_number, some_number,
)
from twoletters.numbers import between, is_number, order, sign_in
from twoletters.rows import times

TWO, THREE, UNIT, X = (-2, 0, 1), (-3, 0, 1), (-1, 0, 1), (0, 1)
BOTH = times(TWO, THREE)
ROOT, BACK, LIKE, LIKE_BACK = (TWO, 1), (TWO, 0), (BOTH, 2), (BOTH, 1)
RELATIONS = {"below": (-1,), "at": (0,), "above": (1,), "not below": (0, 1), "not at": (-1, 1), "not above": (-1, 0)}
NOTHING, EVERYTHING = ((), (False,)), ((), (True,))
PLACES = [(-9, 1), (BOTH, 0), (-3, 2), BACK, (-6, 5), (-1, 1), (-1, 2), (0, 1), (1, 2), (1, 1), (6, 5), ROOT, LIKE, (3, 2), (BOTH, 3), (9, 1)]
ENDS = [((BOTH, 0), (THREE, 0)), (BACK, LIKE_BACK), ((-1, 1),), ((0, 1),), ((1, 1),), (ROOT, LIKE), ((BOTH, 3), (THREE, 1))]


def random_form(luck):
    ends = tuple(luck.choice(told) for told in ENDS if luck.random() < 0.5)
    return made_form(ends, tuple(luck.random() < 0.5 for _ in range(2 * len(ends) + 1)))


def forms(seed, many):
    luck = random.Random(seed)
    return [random_form(luck) for _ in range(many)]


class IsFormTest(unittest.TestCase):
    def test_forms(self):
        for value in (NOTHING, EVERYTHING, ((ROOT,), (False, True, False)), ((BACK, LIKE), (True, False, True, True, False))):
            self.assertIs(is_form(value), True)

    def test_needless_ends(self):
        for truths in ((True, True, True), (False, False, False)):
            self.assertIs(is_form(((ROOT,), truths)), False)
        self.assertIs(is_form((((0, 1), ROOT), (True, False, False, False, False))), False)
        self.assertIs(is_form((((0, 1), ROOT), (True, False, True, True, True))), False)
        for truths in ((True, False, True), (False, True, False), (True, True, False), (True, False, False)):
            self.assertIs(is_form(((ROOT,), truths)), True)

    def test_ends(self):
        needed = (True, False, True, False, True)
        for ends in ((ROOT, LIKE), (LIKE, ROOT), (ROOT, ROOT), (ROOT, BACK), (ROOT, (1, 1)), ((1, 1), (1, 1)), ((1, 1), (2, 2)), (ROOT, (TWO, 2))):
            self.assertIs(is_form((ends, needed)), False)
        for ends in ((BACK, LIKE), ((1, 1), ROOT), (ROOT, (3, 2)), ((0, 1), (1, 1))):
            self.assertIs(is_form((ends, needed)), True)

    def test_truths(self):
        for truths in ((), (True,), (True, False), (True, False, True, False), (1, 0, 1), (True, 0, True), [True, False, True], None):
            self.assertIs(is_form(((ROOT,), truths)), False)
        for value in (((), (1,)), ((), (0,)), ((), ()), ((), (None,)), ([], (True,)), [(), (True,)], ((), (True,), ()), (True,)):
            self.assertIs(is_form(value), False)


class OfRowTest(unittest.TestCase):
    def test_each_relation(self):
        for row in (TWO, UNIT, BOTH, X, times(X, X), times(X, times(X, X)), times(UNIT, (1, -1)), (1, 0, 1), (-1, 0, -1), (5,), (-5,), ()):
            for relation, signs in RELATIONS.items():
                form = form_of_row(row, relation)
                self.assertIs(is_form(form), True)
                for place in PLACES:
                    self.assertIs(is_so_of(form, place), sign_in(row, place) in signs)

    def test_nought_and_numbers(self):
        told = {(): "at", (5,): "above", (-5,): "below"}
        for row, own in told.items():
            for relation, signs in RELATIONS.items():
                so = RELATIONS[own][0] in signs
                self.assertEqual(form_of_row(row, relation), EVERYTHING if so else NOTHING)

    def test_sign_that_does_not_change(self):
        square = times(X, X)
        self.assertEqual(form_of_row(square, "not below"), EVERYTHING)
        self.assertEqual(form_of_row(square, "below"), NOTHING)
        self.assertEqual(form_of_row(square, "above"), (((0, 1),), (True, False, True)))
        self.assertEqual(form_of_row(square, "not above"), (((0, 1),), (False, True, False)))
        self.assertEqual(form_of_row(times(square, (-1, 1)), "below"), (((0, 1), (1, 1)), (True, False, True, False, False)))
        self.assertEqual(form_of_row(times(square, (-1, 1)), "not above"), (((1, 1),), (True, True, False)))


class MadeTest(unittest.TestCase):
    def test_needless_ends(self):
        self.assertEqual(made_form((), (True,)), EVERYTHING)
        self.assertEqual(made_form(((0, 1), ROOT), (False,) * 5), NOTHING)
        self.assertEqual(made_form(((0, 1), (1, 1), ROOT), (True, True, True, False, False, False, False)), (((1, 1),), (True, False, False)))
        self.assertEqual(made_form(((0, 1), (1, 1)), (True, True, True, False, True)), (((1, 1),), (True, False, True)))
        self.assertEqual(made_form(((0, 1), (1, 1)), (True, False, True, True, True)), (((0, 1),), (True, False, True)))

    def test_so_of_the_same_numbers(self):
        luck = random.Random(111)
        for _ in range(60):
            ends = tuple(told[0] for told in ENDS if luck.random() < 0.6)
            truths = tuple(luck.random() < 0.5 for _ in range(2 * len(ends) + 1))
            form = made_form(ends, truths)
            self.assertIs(is_form(form), True)
            for k, end in enumerate(ends):
                self.assertIs(is_so_of(form, end), truths[2 * k + 1])
            for k, (one, other) in enumerate(zip(((-9, 1),) + ends, ends + ((9, 1),))):
                self.assertIs(is_so_of(form, between(one, other)), truths[2 * k])


class TogetherTest(unittest.TestCase):
    def test_all_together(self):
        for one, other in zip(forms(112, 120), forms(113, 120)):
            so_one = [is_so_of(one, place) for place in PLACES]
            so_other = [is_so_of(other, place) for place in PLACES]
            self.assertEqual([is_so_of(both(one, other), place) for place in PLACES], [a and b for a, b in zip(so_one, so_other)])
            self.assertEqual([is_so_of(either(one, other), place) for place in PLACES], [a or b for a, b in zip(so_one, so_other)])
            self.assertEqual([is_so_of(opposite(one), place) for place in PLACES], [not a for a in so_one])
            # PLACES has all ends, and one number of each stretch.
            for form in (both(one, other), either(one, other), opposite(one)):
                self.assertIs(is_form(form), True)
            self.assertIs(do_fit(one, other), so_one == so_other)
            self.assertIs(do_fit(both(one, other), opposite(either(opposite(one), opposite(other)))), True)
            self.assertIs(is_ever(one), True in so_one)
            self.assertIs(is_always(one), False not in so_one)
            parting = parting_number(one, other)
            if do_fit(one, other):
                self.assertIsNone(parting)
            else:
                self.assertIs(is_number(parting), True)
                self.assertNotEqual(is_so_of(one, parting), is_so_of(other, parting))
            found = some_number(one)
            self.assertEqual(found is None, not is_ever(one))
            if found:
                self.assertIs(is_so_of(one, found), True)

    def test_ends_told_by_unlike_rows(self):
        below, from_on = ((ROOT,), (True, False, False)), ((LIKE,), (False, True, True))
        self.assertEqual(both(below, from_on), NOTHING)
        self.assertEqual(either(below, from_on), EVERYTHING)
        self.assertIs(do_fit(below, ((LIKE,), (True, False, False))), True)
        self.assertIs(do_fit(below, ((LIKE_BACK,), (True, False, False))), False)
        self.assertIs(do_fit(opposite(below), from_on), True)
        self.assertIsNone(parting_number(below, ((LIKE,), (True, False, False))))
        alone = both(((ROOT,), (True, True, False)), from_on)
        self.assertEqual(alone[1], (False, True, False))
        self.assertEqual(order(alone[0][0], ROOT), 0)

    def test_opposite_keeps_ends(self):
        for form in forms(114, 20):
            self.assertEqual(opposite(form)[0], form[0])
            self.assertEqual(opposite(opposite(form)), form)


class NumbersOfFormsTest(unittest.TestCase):
    def test_parting(self):
        alone, left_out = ((ROOT,), (False, True, False)), ((ROOT,), (True, False, True))
        self.assertEqual(order(parting_number(alone, NOTHING), ROOT), 0)
        self.assertEqual(order(parting_number(EVERYTHING, left_out), ROOT), 0)
        stretch = (((0, 1), (1, 1)), (False, False, True, False, False))
        found = parting_number(NOTHING, stretch)
        self.assertEqual([order(found, (0, 1)), order(found, (1, 1))], [1, -1])
        lower, upper = ((BACK,), (True, False, False)), ((ROOT,), (False, False, True))
        self.assertEqual(order(parting_number(lower, NOTHING), BACK), -1)
        self.assertEqual(order(parting_number(NOTHING, upper), ROOT), 1)
        self.assertIs(is_number(parting_number(EVERYTHING, NOTHING)), True)
        self.assertIsNone(parting_number(EVERYTHING, EVERYTHING))

    def test_some_number(self):
        self.assertIsNone(some_number(NOTHING))
        self.assertIs(is_number(some_number(EVERYTHING)), True)
        self.assertEqual(order(some_number(((ROOT,), (False, True, False))), ROOT), 0)
        self.assertEqual(order(some_number(((BACK,), (True, False, False))), BACK), -1)
        self.assertEqual(order(some_number(((ROOT,), (False, False, True))), ROOT), 1)
        found = some_number(((ROOT, (3, 2)), (False, False, True, False, False)))
        self.assertEqual([order(ROOT, found), order(found, (3, 2))], [-1, -1])

    def test_least(self):
        self.assertIsNone(least_of(NOTHING))
        self.assertIsNone(least_of(EVERYTHING))
        for truths in ((True, False, False), (True, True, False), (True, False, True)):
            self.assertIsNone(least_of(((ROOT,), truths)))
        told = {(False, True, False): True, (False, False, True): False, (False, True, True): True}
        for truths, so in told.items():
            number, is_there = least_of(((ROOT,), truths))
            self.assertEqual(order(number, LIKE), 0)
            self.assertIs(is_there, so)
        number, is_there = least_of(((BACK, (0, 1), ROOT), (False, False, True, False, False, True, False)))
        self.assertEqual([order(number, BACK), is_there], [0, False])
        number, is_there = least_of((((0, 1), ROOT), (False, True, False, True, True)))
        self.assertEqual([number, is_there], [(0, 1), True])

    def test_each_stretch_and_each_end_alone(self):
        ends = ((BOTH, 0), BACK, (0, 1), LIKE, (3, 2))
        for k in range(11):
            form = made_form(ends, tuple(at == k for at in range(11)))
            found = some_number(form)
            self.assertEqual(order(found, parting_number(form, NOTHING)), 0)
            self.assertIs(is_so_of(form, found), True)
            if k % 2:
                self.assertEqual(order(found, ends[k // 2]), 0)
                number, is_there = least_of(form)
                self.assertEqual([order(number, ends[k // 2]), is_there], [0, True])
            else:
                self.assertTrue(k == 0 or order(ends[k // 2 - 1], found) == -1)
                self.assertTrue(k == 10 or order(found, ends[k // 2]) == -1)
                if k:
                    number, is_there = least_of(form)
                    self.assertEqual([order(number, ends[k // 2 - 1]), is_there], [0, False])
                else:
                    self.assertIsNone(least_of(form))
        for k in range(1, 11):
            truths = tuple(at >= k for at in range(11))
            number, is_there = least_of(made_form(ends, truths))
            self.assertEqual([order(number, ends[(k - 1) // 2]), is_there], [0, k % 2 == 1])

    def test_so_of(self):
        form = ((BACK, (0, 1), LIKE), (False, True, True, False, True, False, False))
        self.assertEqual([is_so_of(form, number) for number in (BACK, LIKE_BACK, (0, 1), ROOT, LIKE)], [True, True, False, False, False])
        self.assertEqual([is_so_of(form, number) for number in ((-2, 1), (-1, 1), (1, 1), (2, 1))], [False, True, True, False])


if __name__ == "__main__":
    unittest.main()
