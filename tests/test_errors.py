"""[4]: the classes of errors."""

import unittest

from twoletters import errors

GIVEN = (
    "InvalidFraction InvalidRow InvalidNumber InvalidForm InvalidIndex InvalidCount InvalidRelation InvalidLetter "
    "InvalidPoly InvalidPlace InvalidCell InvalidPoint InvalidSaying TooMany"
).split()
INDEX = "InvalidRows InvalidPolys InvalidLines".split()
SPOT = ["BadText"]
PLAIN = ["UnlikePlaces"]
ALL = GIVEN + INDEX + SPOT + PLAIN


class ErrorsTest(unittest.TestCase):
    def test_each_keeps_its_attribute_whatever_it_is(self):
        for names, attribute in ((GIVEN, "given"), (INDEX, "index"), (SPOT, "spot")):
            for name in names:
                kind = getattr(errors, name)
                for value in (None, 0, True, "text", (1, (2,)), [3], {"a": 1}, kind, object()):
                    self.assertIs(getattr(kind(value), attribute), value, name)
                    self.assertIs(getattr(kind(**{attribute: value}), attribute), value, name)

    def test_each_asks_for_its_attribute(self):
        for name in GIVEN + INDEX + SPOT:
            with self.assertRaises(TypeError):
                getattr(errors, name)()

    def test_without_attributes(self):
        for name in PLAIN + ["LetterError"]:
            error = getattr(errors, name)()
            self.assertEqual(vars(error), {}, name)

    def test_each_stands_under_the_base_alone(self):
        self.assertEqual(errors.LetterError.__bases__, (ValueError,))
        for name in ALL:
            self.assertEqual(getattr(errors, name).__bases__, (errors.LetterError,), name)

    def test_each_is_defined_there(self):
        for name in ALL + ["LetterError"]:
            self.assertEqual(getattr(errors, name).__module__, "twoletters.errors")

    def test_each_is_caught_by_its_name_and_by_the_base(self):
        for name in GIVEN + INDEX + SPOT:
            kind = getattr(errors, name)
            for base in (kind, errors.LetterError, ValueError):
                with self.assertRaises(base):
                    raise kind(7)


if __name__ == "__main__":
    unittest.main()
