"""[36], [37]: sheets, and the signs that they tell."""

import copy
import inspect
import random
import unittest
from fractions import Fraction

from tests import naive, naive_paper
from tests.some_sayings import random_poly
from tests.spoiling import spoilt
from tests.test_conventions import NO_POLY, ODD
from twoletters.certificates import sheet_of
from twoletters.checker import is_sheet
from twoletters.errors import InvalidPolys
from twoletters.numbers import order
from twoletters.places import sign_at
from twoletters.polys import poly_product
from twoletters.reader import read_saying
from twoletters.sheetchecking import opened_sheet
from twoletters.sheetmaking import made_sheet


def poly(text):
    return read_saying(text + " = 0")[1]


RING, LINE, HYPER, BOWL = poly("x^2 + y^2 - 1"), poly("y - x"), poly("x*y - 1"), poly("y - x^2")
TWO = (-2, 0, 1)
ROOT, BACK = (TWO, 1), (TWO, 0)
RING_STACKS = (((0, 1),), ((-1, 1), (1, 1)), ((-2, 1), (0, 1), (2, 1)), ((-1, 1), (1, 1)), ((0, 1),))
RING_SHEET = ((), (RING,), ((1, (), (1,)),), ((-1, 1), (1, 1)), ((-2, 1), (0, 1), (2, 1)), RING_STACKS)
LINE_SHEET = ((), (LINE,), ((1, (), (1,)),), (), ((0, 1),), (((-1, 1), (1, 1)),))
LINES_SHEET = ((), (LINE, poly("y + x")), ((1, (), (1, 1)),), ((0, 1),), ((-1, 1), (1, 1)),
               (((-2, 1), (0, 1), (2, 1)), ((-1, 1), (1, 1)), ((-2, 1), (0, 1), (2, 1))))
HYPER_SHEET = ((), (HYPER,), ((1, (), (1,)),), ((0, 1),), ((-1, 1), (1, 1)), (((-2, 1), (0, 1)), ((0, 1),), ((0, 1), (2, 1))))
BOWL_SHEET = ((), (BOWL,), ((1, (), (1,)),), (), ((0, 1),), (((-1, 1), (1, 1)),))
# Of the ring and a line through it: its ends are told by x x - 1, and by 2 x x - 1 and a product of it.
HALF, OTHER_HALF = ((-1, 0, 2), 0), ((2, 0, -5, 0, 2), 2)
BOTH_STACKS = (
    ((-4, 1), (0, 1)), ((-2, 1), (-1, 2), (1, 1)), ((-2, 1), (-7, 10), (0, 1), (2, 1)), ((-2, 1), (0, 1), (2, 1)),
    ((-2, 1), (-1, 2), (1, 2), (2, 1)), ((-2, 1), (0, 1), (2, 1)), ((-2, 1), (0, 1), (7, 10), (2, 1)), ((-2, 1), (1, 2), (2, 1)),
    ((0, 1), (4, 1)),
)
BOTH_SHEET = (
    (), (RING, LINE), ((1, (), (1, 0)), (1, (), (0, 1))), ((-1, 1), HALF, OTHER_HALF, (1, 1)),
    ((-2, 1), (-4, 5), (0, 1), (4, 5), (2, 1)), BOTH_STACKS,
)
EMPTY_SHEET = ((), (), (), (), ((0, 1),), (((0, 1),),))
# x (x x - 2) y, and a row alone.
ROWS_SHEET = (
    ((0, 1), TWO), (poly("y"),), ((-3, (1, 1), (1,)), (5, (0, 2), (0,))), (BACK, (0, 1), ROOT), ((-2, 1), (-1, 1), (1, 1), (2, 1)),
    (((-1, 1), (1, 1)),) * 7,
)
ROWS_LOT = (poly("-3*x*y*(x^2 - 2)"), poly("5*(x^2 - 2)^2"))
GOOD = [
    ((RING,), RING_SHEET), ((LINE,), LINE_SHEET), ((poly("y^2 - x^2"),), LINES_SHEET), ((HYPER,), HYPER_SHEET), ((BOWL,), BOWL_SHEET),
    ((RING, LINE), BOTH_SHEET), ((), EMPTY_SHEET), (ROWS_LOT, ROWS_SHEET),
    (((), ((7,),), ((-7,),)), ((), (), ((0, (), ()), (7, (), ()), (-7, (), ())), (), ((5, 3),), (((1, 2),),))),
    ((poly("x - 1"),), (((-1, 1),), (), ((1, (1,), ()),), ((1, 1),), ((0, 1), (2, 1)), (((0, 1),), ((7, 1),), ((0, 1),)))),
    # More ends than are asked, and what no product uses.
    ((LINE,), ((), (LINE,), ((1, (), (1,)),), (BACK, ROOT), ((-2, 1), (0, 1), (2, 1)),
               (((-3, 1), (-1, 1)), ((-2, 1), (0, 1)), ((-1, 1), (1, 1)), ((0, 1), (2, 1)), ((1, 1), (3, 1))))),
    ((poly("4"),), ((TWO,), (LINE,), ((4, (0,), (0,)),), (BACK, ROOT), ((-2, 1), (0, 1), (2, 1)),
                    (((-3, 1), (-1, 1)), ((-2, 1), (0, 1)), ((-1, 1), (1, 1)), ((0, 1), (2, 1)), ((1, 1), (3, 1))))),
    ((RING, (), RING, poly_product(RING, ((-2,),))), RING_SHEET[:2] + (((1, (), (1,)), (0, (), (8,)), (1, (), (1,)), (-2, (), (1,))),) + RING_SHEET[3:]),
    ((poly("(y - x)^4"),), LINE_SHEET[:2] + (((1, (), (4,)),),) + LINE_SHEET[3:]),
    # More fractions in a stack than the POLY alone would need are asked for by the other one.
    ((LINE,), ((), (LINE, poly("y - x - 1")), ((1, (), (1, 0)),), (), ((0, 1),), (((-1, 1), (1, 2), (2, 1)),))),
]
LOTS = [
    "x^2 + y^2 - 1", "y - x", "y - x^2", "x - y^2", "x*y - 1", "x", "y", "x^2 - 2", "y^2 - 3", "3", "0", "x^2*y - x", "x*y - x^2", "(y - x)^2*(y + x)",
    "x^2*(x - 1)", "(x^2 - 2)*(y^2 - 3)", "y^3 - x", "y^4 - x*y + 1", "-7*x*y^2", "x^4 + y^4 - 1", "x^2 + y^2", "(x^2 - 2)^2 + (y^2 - 3)^2", "x^4*y^4 - 1",
]


class GoodTest(unittest.TestCase):
    def test_by_hand(self):
        for lot, sheet in GOOD:
            self.assertIs(is_sheet(lot, sheet), True, (lot, sheet))
            self.assertIs(is_sheet(value=sheet, polys=lot), True)
            self.assertTrue(naive_paper.is_sheet(lot, sheet))

    def test_made(self):
        luck = random.Random(361)
        lots = [()] + [(poly(text),) for text in LOTS] + [tuple(poly(luck.choice(LOTS)) for _ in range(luck.randint(2, 8))) for _ in range(40)]
        lots += [tuple(random_poly(luck, 4, 4) for _ in range(luck.randint(1, 3))) for _ in range(20)]
        for lot in lots:
            sheet = sheet_of(lot)
            self.assertIs(is_sheet(lot, sheet), True, lot)
            self.assertTrue(len(lot) > 2 or naive_paper.is_sheet(lot, sheet), lot)
            self.assertEqual(sheet_of(polys=lot), sheet)

    def test_squares_are_taken_apart(self):
        lot = (poly("x*(y - x)^2*(y + x)"), poly("(x - 1)^2*(y^2 + 1)"))
        self.assertIs(is_sheet(lot, sheet_of(lot)), True)

    def test_eight_polys_of_degree_four(self):
        luck = random.Random(362)
        lot = tuple(random_poly(luck, 4, 2) for _ in range(7)) + ((),)
        self.assertIs(is_sheet(lot, sheet_of(lot)), True)

    def test_powers(self):
        for power, truth in ((0, True), (8, True), (9, False), (-1, False), (True, False)):
            self.assertIs(is_sheet(((),), ((TWO,), (LINE,), ((0, (power,), (0,)),)) + GOOD[11][1][3:]), truth, power)
            self.assertIs(is_sheet(((),), ((TWO,), (LINE,), ((0, (0,), (power,)),)) + GOOD[11][1][3:]), truth, power)
        for power, truth in ((3, False), (4, True), (5, False), (True, False)):
            self.assertIs(is_sheet((poly("(y - x)^4"),), LINE_SHEET[:2] + (((1, (), (power,)),),) + LINE_SHEET[3:]), truth, power)
        self.assertIs(is_sheet((LINE,), LINE_SHEET[:2] + (((1, (), (True,)),),) + LINE_SHEET[3:]), False)
        self.assertIs(is_sheet((LINE,), LINE_SHEET[:2] + (((True, (), (1,)),),) + LINE_SHEET[3:]), False)
        self.assertIs(is_sheet((LINE,), LINE_SHEET[:2] + (((0, (), (1,)),),) + LINE_SHEET[3:]), False)
        self.assertIs(is_sheet(((),), LINE_SHEET[:2] + (((1, (), (1,)),),) + LINE_SHEET[3:]), False)


def put(sheet, k, part):
    return sheet[:k] + (part,) + sheet[k + 1:]


class BadTest(unittest.TestCase):
    def check(self, lot, sheet):
        self.assertIs(is_sheet(lot, sheet), False, (lot, sheet))
        self.assertFalse(naive_paper.is_sheet(lot, sheet), (lot, sheet))

    def test_what_is_none(self):
        for value in ODD + [RING_SHEET[:5], RING_SHEET + ((),), list(RING_SHEET), (RING_SHEET,), (), ((),) * 6, naive.deep(30)]:
            self.check((RING,), value)
        for k in range(6):
            for value in ODD + [list(RING_SHEET[k]), RING_SHEET[k] + ((),), RING_SHEET[k] + ([],), naive.deep(29)]:
                if value != RING_SHEET[k]:
                    self.check((RING,), put(RING_SHEET, k, value))

    def test_another_lot(self):
        for lot in ((), (LINE,), (RING, RING), (poly("2*x^2 + 2*y^2 - 2"),), (poly("1 - x^2 - y^2"),), ((),)):
            self.check(lot, RING_SHEET)

    def test_each_part_too_few_too_many_doubled_or_in_another_order(self):
        for lot, sheet in GOOD:
            for k in (2, 3, 4, 5):
                part = sheet[k]
                for at in range(len(part)):
                    self.check(lot, put(sheet, k, part[:at] + part[at + 1:]))
                    self.check(lot, put(sheet, k, part[:at] + part[at:at + 1] + part[at:]))
                for at in range(1, len(part)):
                    if part[at] != part[at - 1]:
                        wrong = put(sheet, k, part[:at - 1] + (part[at], part[at - 1]) + part[at + 1:])
                        self.assertIs(is_sheet(lot, wrong), naive_paper.is_sheet(lot, wrong))
                        if k in (3, 4):
                            self.check(lot, wrong)

    def test_rows(self):
        lot, sheet = ROWS_LOT, ROWS_SHEET
        for rows in ((), (TWO,), ((0, 1),), (TWO, (0, 1)), ((0, 1), TWO, TWO), ((0, 1), TWO, (5,)), ((0, 1), TWO, ()), ([0, 1], TWO), ((False, 1), TWO), ((0, 1), (-3, 0, 1))):
            self.check(lot, put(sheet, 0, rows))
        self.check(lot, ((TWO, (0, 1)),) + sheet[1:])
        self.check((poly("5"),), (((5,),), (), ((1, (1,), ()),), (), ((0, 1),), (((0, 1),),)))
        self.assertIs(is_sheet(ROWS_LOT, ((TWO, (0, 1)),) + (sheet[1], ((-3, (1, 1), (1,)), (5, (2, 0), (0,)))) + sheet[3:]), True)

    def test_polys(self):
        for polys in ((), (LINE,), (RING, RING), (RING, LINE), ((RING,),), (list(RING),), (poly("2*x^2 + 2*y^2 - 2"),), (poly("x"), RING), (RING, ((3,),)), (RING, ())):
            self.check((RING,), put(RING_SHEET, 1, polys))
        # x x + y y - 1 may have another whole number beside it.
        twice = poly("2*x^2 + 2*y^2 - 2")
        self.assertIs(is_sheet((twice,), RING_SHEET[:2] + (((2, (), (1,)),),) + RING_SHEET[3:]), True)
        self.assertIs(is_sheet((twice,), RING_SHEET[:1] + ((twice,), ((1, (), (1,)),)) + RING_SHEET[3:]), True)
        self.check((RING,), RING_SHEET[:1] + ((twice,), ((1, (), (1,)),)) + RING_SHEET[3:])

    def test_asked_rows_that_are_nought(self):
        square = poly("(y - x)^2")
        self.check((square,), LINE_SHEET[:1] + ((square,), ((1, (), (1,)),)) + LINE_SHEET[3:])
        self.check((LINE,), LINE_SHEET[:1] + ((LINE, LINE), ((1, (), (1, 0)),)) + LINE_SHEET[3:])
        self.check((LINE,), LINE_SHEET[:1] + ((LINE, poly("y*(y - x)")), ((1, (), (1, 0)),)) + LINE_SHEET[3:])

    def test_a_content_is_nought_at_its_end(self):
        slant = poly("x*y - x^2")
        ends, stacks = ((0, 1),), (((-2, 1), (0, 1)), ((-1, 1), (1, 1)), ((0, 1), (2, 1)))
        self.check((slant,), ((), (slant,), ((1, (), (1,)),), ends, ((-1, 1), (1, 1)), stacks))
        self.assertIs(is_sheet((slant,), (((0, 1),), (LINE,), ((1, (1,), (1,)),), ends, ((-1, 1), (1, 1)), stacks)), True)

    def test_the_ends_of_last_rows(self):
        self.check((HYPER,), HYPER_SHEET[:3] + ((), ((0, 1),), (((0, 1),),)))
        self.check((HYPER,), HYPER_SHEET[:3] + ((), ((1, 1),), (((0, 1), (2, 1)),)))
        steep = poly("x*y^2 - 1")
        self.check((steep,), ((), (steep,), ((1, (), (1,)),), (), ((-1, 1),), (((0, 1),),)))

    def test_ends(self):
        for ends in (((-1, 1),), ((-1, 1), ROOT), ((1, 1), (-1, 1)), ((-1, 1), (1, 1), (1, 1)), ((-1, 1), (2, 2)), ((-1, 1), [1, 1]), ((-1, 1), 1),
                     (((-1, 0, 1), 0), (1, 1)), (((-1, 1), 0), (1, 1)), ((-1, 1), (True, 1)), ((-1, 1), (TWO, 2)), ((-1, 1), (1, 2), (1, 1))):
            self.check((RING,), put(RING_SHEET, 3, ends))
        # An end too few for what is asked, its column and its split taken, too.
        self.check((RING,), RING_SHEET[:3] + (((-1, 1),), ((-2, 1), (0, 1)), RING_STACKS[:3]))
        self.check((RING,), RING_SHEET[:3] + ((), ((0, 1),), RING_STACKS[2:3]))
        self.check((RING, LINE), BOTH_SHEET[:3] + (((-1, 1), OTHER_HALF, (1, 1)), ((-2, 1), (0, 1), (4, 5), (2, 1)), BOTH_STACKS[:2] + BOTH_STACKS[4:]))
        self.check(ROWS_LOT, ROWS_SHEET[:3] + ((BACK, ROOT), ((-2, 1), (1, 1), (2, 1)), (((-1, 1), (1, 1)),) * 5))

    def test_splits(self):
        for splits in (((-1, 1), (0, 1), (2, 1)), ((-2, 1), (-1, 1), (2, 1)), ((-2, 1), (1, 1), (2, 1)), ((-2, 1), (3, 2), (2, 1)), ((-2, 1), (0, 1), (1, 1)), ((-2, 1), (0, 1), (0, 1)),
                       ((-2, 1), (0, 2), (2, 1)), ((-2, 1), (0, 1), (4, 2)), ((-2, 1), (0, 1), ROOT), ((-2, 1), 0, (2, 1)), ((-2, 1), (0, 1)), ((-2, 1), (0, 1), (2, 1), (3, 1)),
                       ((-2, 1), [0, 1], (2, 1)), ((-2, 1), (False, 1), (2, 1)), ((-2, 1), (0, True), (2, 1)), ((2, 1), (0, 1), (-2, 1))):
            self.check((RING,), put(RING_SHEET, 4, splits))
        for splits in (((-9, 8), (0, 1), (9, 8)), ((-100, 1), (-7, 8), (100, 1))):
            stacks = put(put(RING_STACKS, 0, ((5, 1),)), 2, ((-2, 1), (0, 1), (5, 1)))
            self.assertIs(is_sheet((RING,), RING_SHEET[:4] + (splits, stacks)), True)
        self.check((RING, LINE), put(BOTH_SHEET, 4, ((-2, 1), (-7, 10), (0, 1), (4, 5), (2, 1))))

    def test_stacks(self):
        middle = [
            (), ((0, 1),), ((-2, 1), (2, 1)), ((-2, 1), (0, 1)), ((0, 1), (2, 1)), ((-1, 1), (0, 1), (2, 1)), ((-2, 1), (0, 1), (1, 1)), ((-2, 1), (1, 1), (2, 1)),
            ((-2, 1), (0, 1), (2, 1), (3, 1)), ((-3, 1), (-2, 1), (0, 1), (2, 1)), ((-2, 1), (0, 1), (1, 2), (2, 1)), ((2, 1), (0, 1), (-2, 1)), ((-2, 1), (0, 1), (0, 1), (2, 1)),
            ((-2, 1), (0, 2), (2, 1)), ((-2, 1), (0, 1), (4, 2)), [(-2, 1), (0, 1), (2, 1)], ((-2, 1), [0, 1], (2, 1)), ((-2, 1), (0, 1), ROOT), ((-2, 1), 0, (2, 1)), None, (0, 1),
            ((-2, 1), (False, 1), (2, 1)), ((-2, 1), (0, 1), (2, 1), (2, 1)),
        ]
        for stack in middle:
            self.check((RING,), put(RING_SHEET, 5, put(RING_STACKS, 2, stack)))
        for k in (1, 3):
            for stack in ((), ((-1, 1),), ((0, 1),), ((1, 1),), ((-1, 1), (0, 1)), ((0, 1), (1, 1)), ((-1, 1), (1, 1), (2, 1)), ((1, 1), (2, 1))):
                self.check((RING,), put(RING_SHEET, 5, put(RING_STACKS, k, stack)))
        for k in (0, 4):
            for stack in ((), ((0, 1), (1, 1)), (0, 1)):
                self.check((RING,), put(RING_SHEET, 5, put(RING_STACKS, k, stack)))
        # Over root 1/2 both have the root root 1/2: one gap for both; two gaps, or none, are wrong.
        for stack in (((-2, 1), (2, 1)), ((-2, 1), (0, 1), (1, 2), (2, 1)), ((-2, 1), (0, 1), (7, 10), (2, 1)), ((-2, 1), (0, 1), (1, 2))):
            self.check((RING, LINE), put(BOTH_SHEET, 5, put(BOTH_STACKS, 5, stack)))
        # Between 0 and 4/5 the line and the ring are apart.
        self.check((RING, LINE), put(BOTH_SHEET, 5, put(BOTH_STACKS, 4, ((-2, 1), (-1, 2), (2, 1)))))
        self.check((RING, LINE), put(BOTH_SHEET, 5, put(BOTH_STACKS, 6, ((-2, 1), (1, 2), (2, 1)))))

    def test_spoilt_by_luck(self):
        luck = random.Random(363)
        lots = [(lot, sheet) for lot, sheet in GOOD] + [(lot, sheet_of(lot)) for lot in [tuple(poly(luck.choice(LOTS)) for _ in range(2)) for _ in range(12)]]
        told = {True: 0, False: 0}
        for lot, sheet in lots:
            for _ in range(60):
                wrong = spoilt(luck, sheet)
                truth = naive_paper.is_sheet(lot, wrong)
                self.assertIs(is_sheet(lot, wrong), truth, (lot, wrong))
                told[truth] += 1
        self.assertGreater(min(told.values()), 30)

    def test_fractions_moved_by_luck(self):
        luck = random.Random(364)
        told = {True: 0, False: 0}
        for _ in range(400):
            lot, sheet = luck.choice(GOOD)
            k = luck.choice((4, 5))
            part = list(sheet[k])
            at = luck.randrange(len(part))
            moved = Fraction(luck.randint(-12, 12), luck.randint(1, 5))
            if k == 5:
                inner = list(part[at])
                inner[luck.randrange(len(inner))] = (moved.numerator, moved.denominator)
                part[at] = tuple(inner)
            else:
                part[at] = (moved.numerator, moved.denominator)
            wrong = put(sheet, k, tuple(part))
            truth = naive_paper.is_sheet(lot, wrong)
            self.assertIs(is_sheet(lot, wrong), truth, (lot, wrong))
            told[truth] += 1
        self.assertGreater(min(told.values()), 60)


class ArgumentsTest(unittest.TestCase):
    def test_names(self):
        self.assertEqual(list(inspect.signature(is_sheet).parameters), ["polys", "value"])
        self.assertEqual(list(inspect.signature(sheet_of).parameters), ["polys"])
        self.assertEqual((is_sheet.__module__, sheet_of.__module__), ("twoletters.checker", "twoletters.certificates"))

    def test_wrong_polys(self):
        steep, wide = ((), (), (), (), (), (1,)), ((0, 0, 0, 0, 0, 1),)
        wrong = [(value, None) for value in ODD if not isinstance(value, tuple)] + [((LINE,) * 9, None), ([LINE], None)]
        wrong += [((LINE, value, None), 1) for value in NO_POLY + [steep, wide, ((1,), (0,) * 5 + (2,))]]
        for value, index in wrong:
            for function, more in ((sheet_of, ()), (is_sheet, (RING_SHEET,)), (is_sheet, (None,))):
                with self.assertRaises(InvalidPolys, msg=repr(value)) as caught:
                    function(value, *more)
                self.assertEqual(caught.exception.index, index)
        self.assertIs(is_sheet((LINE,) * 8, sheet_of((LINE,) * 8)), True)

    def test_nothing_changes(self):
        for lot, sheet in GOOD:
            before = copy.deepcopy((lot, sheet))
            is_sheet(lot, sheet)
            self.assertEqual((lot, sheet), before)
        value = [list(RING_SHEET[0]), [RING]]
        is_sheet((RING,), value)
        self.assertEqual(value, [[], [RING]])


class LevelsTest(unittest.TestCase):
    """The signs on all levels of all columns, as they are told, and as they are at places."""

    def check(self, lot, sheet):
        told = [(point.number, signs) for point, signs in opened_sheet(lot, sheet).strips]
        self.assertEqual([(x, [tuple(here) for here in signs]) for x, signs in told], naive_paper.levels(lot, sheet))
        return told

    def test_by_hand(self):
        told = self.check((RING,), RING_SHEET)
        self.assertEqual([[here[0] for here in signs] for _, signs in told], [[1], [1, 0, 1], [1, 0, -1, 0, 1], [1, 0, 1], [1]])
        told = self.check((RING, LINE), BOTH_SHEET)
        self.assertEqual(told[3][1], [(1, -1), (0, 0), (-1, 1), (0, 1), (1, 1)])
        self.assertEqual(told[5][1], [(1, -1), (0, -1), (-1, -1), (0, 0), (1, 1)])
        self.assertEqual([signs[0] for _, signs in self.check(ROWS_LOT, ROWS_SHEET)], [(-1, 1), (0, 0), (1, 1), (0, 1), (-1, 1), (0, 0), (1, 1)])

    def test_as_made(self):
        luck = random.Random(371)
        for _ in range(25):
            lot = tuple(poly(luck.choice(LOTS)) for _ in range(luck.randint(1, 3)))
            told, opened = made_sheet(lot)
            checked = opened_sheet(lot, told)
            self.assertEqual([order(one.number, end) for one, end in zip(opened.ends, told[3])], [0] * len(told[3]))
            self.assertEqual([signs for _, signs in opened.strips], [signs for _, signs in checked.strips])
            self.check(lot, told)

    def test_at_places(self):
        luck = random.Random(372)
        for _ in range(12):
            lot = tuple(poly(luck.choice(LOTS)) for _ in range(luck.randint(1, 3)))
            sheet = sheet_of(lot)
            for (point, signs), fractions in zip(opened_sheet(lot, sheet).strips, sheet[5]):
                for y, here in zip(fractions, signs[::2]):
                    self.assertEqual(tuple(sign_at(each, (point.number, y)) for each in lot), here)
                for level in range(1, len(signs), 2):
                    root = next(k for k, each in enumerate(sheet[1]) if naive_paper.many_between(each, point.number, fractions[level // 2], fractions[level // 2 + 1]))
                    index = sum(naive_paper.many_between(sheet[1][root], point.number, low, high) for low, high in zip(fractions[:level // 2], fractions[1:]))
                    place = (point.number, (sheet[1][root], index))
                    self.assertEqual(tuple(sign_at(each, place) for each in lot), signs[level])


if __name__ == "__main__":
    unittest.main()
