"""[10]: tables of signs."""

import ast
import importlib
import pathlib
import random
import unittest
from fractions import Fraction
from unittest import mock

from tests import naive
from twoletters.numbers import is_number, order, sign_in
from twoletters.rows import derivative, plain, times
from twoletters.signs import ends_of, signs_by_rests, signs_by_roots

TWO, THREE, UNIT, X = (-2, 0, 1), (-3, 0, 1), (-1, 0, 1), (0, 1)
CUBE = times(X, times(X, X))
TOLD = [
    (), ((),), ((3,),), ((), (3,), (-2,)), (X,), (X, X), (X, (0, -2)), (UNIT, times(UNIT, (-3,))),
    (TWO, derivative(TWO)), (CUBE, derivative(CUBE)), (times(TWO, TWO), TWO), (times(TWO, UNIT), times(TWO, THREE)),
    (times(TWO, times(TWO, TWO)), derivative(times(TWO, times(TWO, TWO)))), (CUBE, times(X, UNIT), X),
    (times(TWO, (1, 1)), times(TWO, (5, 3)), TWO), ((1, 0, 1), (1, 1, 1)), (UNIT, (), (4,), X, TWO, (-1, 1)),
    ((1, -3, 3, -1), (1, -2, 1), (-1, 1)), (times(UNIT, UNIT), (1, 1), (-1, 1), (0, 0, 1)), (TWO, (-2 * 10 ** 60 - 1, 0, 10 ** 60)),
    (times(TWO, times(TWO, TWO)), times(UNIT, times(UNIT, UNIT)), THREE, TWO, UNIT, X),
    ((-6, 11, -6, 1), (0, 2, -3, 1), (-2, 1), (6, -5, 1)), ((-1, 1), (-2, 2), (1, -1)), ((6, 0, -5, 0, 1), (0, 6, 0, -5, 0, 1)),
]


def random_rows(luck):
    rows = []
    for _ in range(luck.randint(0, 6)):
        row = naive.cut([luck.randint(-4, 4) for _ in range(luck.randint(0, 4))])
        kind = luck.randrange(6)
        if kind == 0 and rows:
            row = times(luck.choice(rows), (luck.choice([-3, -1, 2]),))
        if kind == 1 and rows:
            row = derivative(luck.choice(rows))
        if kind == 2 and rows:
            row = times((luck.randint(-2, 2), 1), naive.cut(luck.choice(rows)[:2])) if luck.random() < 0.5 else rows[-1]
        if kind == 3:
            factor = (luck.randint(-2, 2), 1)
            row = times(factor, times(factor, luck.choice([factor, (1,), (-1, 2)])))
        rows.append(naive.cut(row))
    return tuple(rows)


def naive_table(rows):
    """The table by an own way: the roots of the product held apart, and the signs at and between them."""
    whole = (1,)
    for row in rows:
        if row:
            whole = naive.product(whole, row)
    ends = naive.stretches(whole, 20)
    cuts = [Fraction(-1, 3)] if not ends else [ends[0][0] - 1] + [high + Fraction(1, 2 ** 22) for _, high in ends]
    columns = []
    for k, cut in enumerate(cuts):
        if k:
            low, high = ends[k - 1]
            columns.append(tuple(
                0 if not row or naive.count(row, low, high) else naive.sign(naive.value(row, cut)) for row in rows
            ))
        columns.append(tuple(naive.sign(naive.value(row, cut)) for row in rows))
    return tuple(columns)


class TablesTest(unittest.TestCase):
    def check(self, rows):
        table = signs_by_roots(rows)
        self.assertEqual(signs_by_rests(rows), table, rows)
        ends = ends_of(rows)
        self.assertEqual(len(table), 2 * len(ends) + 1)
        for k, end in enumerate(ends):
            self.assertIs(is_number(end), True)
            self.assertEqual(table[2 * k + 1], tuple(sign_in(row, end) for row in rows))
            self.assertTrue(any(row and sign_in(row, end) == 0 for row in rows))
        for one, other in zip(ends, ends[1:]):
            self.assertEqual(order(one, other), -1)
        return table

    def test_told(self):
        for rows in TOLD:
            self.check(rows)

    def test_by_hand(self):
        self.assertEqual([self.check(()), self.check(((),)), self.check(((3,), ()))], [((),), ((0,),), ((1, 0),)])
        self.assertEqual(self.check(((0, -2),)), ((1,), (0,), (-1,)))
        self.assertEqual(self.check(((0, 0, -2),)), ((-1,), (0,), (-1,)))
        self.assertEqual(self.check((CUBE, (0, 0, 3))), ((-1, 1), (0, 0), (1, 1)))
        self.assertEqual(self.check((X, (-1, 1), ())), ((-1, -1, 0), (0, -1, 0), (1, -1, 0), (1, 0, 0), (1, 1, 0)))
        self.assertEqual(self.check(((1, 0, 1), (-5,))), ((1, -1),))

    def test_by_an_own_way(self):
        luck = random.Random(101)
        for _ in range(120):
            rows = random_rows(luck)
            if sum(len(row) for row in rows) < 16:
                self.assertEqual(signs_by_roots(rows), naive_table(rows), rows)

    def test_both_ways_alike(self):
        luck = random.Random(102)
        for _ in range(400):
            self.check(random_rows(luck))

    def test_greater_degrees(self):
        luck = random.Random(103)
        for degree, many in ((5, 3), (6, 2), (4, 6), (7, 2), (3, 6)):
            for _ in range(3):
                self.check(tuple(naive.cut([luck.randint(-9, 9) for _ in range(degree)] + [luck.randint(1, 5)]) for _ in range(many)))

    def test_an_end_told_by_unlike_rows_stands_once(self):
        self.assertEqual(len(ends_of((times(TWO, UNIT), times(TWO, THREE), times(TWO, TWO)))), 6)
        self.assertEqual(ends_of(((-1, 2), (1, -2), times((-1, 2), (-1, 2)))), ((1, 2),))


class WithoutRootsTest(unittest.TestCase):
    def test_nothing_that_finds_roots_is_called(self):
        rows = (TWO, times(UNIT, X), (1, -3, 3, -1))
        expected = signs_by_roots(rows)
        names = [("stretches", "stretches_of"), ("lifting", "fraction_roots"), ("points", "points_of_plain"), ("points", "stretches_of"),
                 ("points", "fraction_roots"), ("tables", "points_of_plain"), ("points", "Point")]
        patches = [mock.patch(f"twoletters.{module}.{name}", side_effect=AssertionError) for module, name in names]
        for patch in patches:
            patch.start()
        try:
            self.assertEqual(signs_by_rests(rows), expected)
            with self.assertRaises(AssertionError):
                signs_by_roots(rows)
        finally:
            for patch in patches:
                patch.stop()

    def test_the_module_reaches_no_module_of_roots(self):
        package = pathlib.Path(importlib.import_module("twoletters").__file__).parent
        waiting, reached = ["resttables"], set()
        while waiting:
            name = waiting.pop()
            if name in reached:
                continue
            reached.add(name)
            for node in ast.parse((package / f"{name}.py").read_text()).body:
                if isinstance(node, ast.ImportFrom) and node.module.startswith("twoletters."):
                    waiting.append(node.module.partition(".")[2])
        self.assertFalse(reached & {"roots", "points", "stretches", "lifting", "tables"})


class PlainTest(unittest.TestCase):
    def test_ends_are_roots_of_plain_rows(self):
        for rows in TOLD:
            for end in ends_of(rows):
                if not isinstance(end[0], int):
                    self.assertEqual(plain(end[0]), end[0])


if __name__ == "__main__":
    unittest.main()
