"""The console."""

import copy
import inspect
import unittest

from tests.test_conventions import ODD
from twoletters.console import run
from twoletters.errors import InvalidLines
from twoletters.pictures import letters
from twoletters.printer import form_text, saying_text
from twoletters.reader import read_saying, read_scene
from twoletters.truths import form_of

DISC = "d := x^2 + y^2 < 1"
LONGEST = "a" * 24


def last(*lines):
    return run(lines)[-1]


class PutTest(unittest.TestCase):
    def shown(self, *lines):
        """The plain texts of what is kept."""
        names = last(*lines, "names").split()
        return {name: last(*lines, f"show {name}") for name in names}

    def test_put(self):
        self.assertEqual(run((DISC, "show d")), ("done", "y^2 + x^2 - 1 < 0"))
        for line in ("d:=x<1", "d :=x < 1", "   d   :=   x<1   ", "d := x < 1 # a remark", "d := [x < 1]", "d :=\nx\n<\n1", "d := # one\n x < 1 # two\n", "d:= (x) < (1)"):
            self.assertEqual(run((line, "show d", "names")), ("done", "x - 1 < 0", "d"), line)
        for name in ("a", "z9", "a_1", "names", "show", "strike", "letters", "at", LONGEST, "lets", "x1", "xx", "truee"):
            self.assertEqual(run((name + " := x < 1", "show " + name)), ("done", "x - 1 < 0"), name)

    def test_what_is_no_putting(self):
        for line in ("x := x < 1", "y := x < 1", "true := x < 1", "false:=x<1", "not := x < 1", "all := x < 1", "some := x < 1", "let := x < 1", "D := x < 1", "_a := x < 1", "1a := x < 1", "a b := x < 1",
                     "a' := x < 1", LONGEST + "a := x < 1", ":= x < 1", "d : = x < 1", "d = x < 1", "d", "d x < 1", "let d = x < 1;", "d\n:= x < 1", "\nd := x < 1", "dD := x < 1", "d- := x < 1"):
            self.assertEqual(run((line, "names")), ("?", ""), line)

    def test_names_are_filled_as_they_were(self):
        lines = (DISC, "e := d & not x <= y", "d := x > 3", "f := d | e")
        self.assertEqual(self.shown(*lines), {"d": "x - 3 > 0", "e": "y^2 + x^2 - 1 < 0 & not -y + x <= 0", "f": "x - 3 > 0 | y^2 + x^2 - 1 < 0 & not -y + x <= 0"})
        self.assertEqual(self.shown("d := x < 1", "d := not d", "d := d & d"), {"d": "not x - 1 < 0 & not x - 1 < 0"})
        self.assertEqual(self.shown(DISC, "s := some y: d"), {"d": "y^2 + x^2 - 1 < 0", "s": "some y: y^2 + x^2 - 1 < 0"})

    def test_the_spot_is_that_in_the_line(self):
        for line, spot in (("e := x <", 8), ("e:=", 3), ("e :=   ", 7), ("   e := x < 1 y", 14), ("e := d", 5), ("  e  :=  x^5 < 1", 11), ("e := x ^ 5 < 1 & d", 9), ("e := x^2*x^3 < 1", 8), ("e := x < 1;", 10),
                           ("e := let a = x < 1; a", 5), ("e := x < 1 # x\n<", 15), ("e := := x", 5), ("e := ?", 5), ("e := d | x <", 12), ("e := x*0 = e", 11), ("e := X < 1", 5), ("names := x <", 12)):
            self.assertEqual(run((line, "names")), (f"BadText {spot}", ""), line)
        self.assertEqual(last("d := x < 1", "e := d & d & e"), "BadText 13")
        self.assertEqual(last("d := x < 1", "d := d &"), "BadText 8")

    def test_too_deep_and_too_many(self):
        lines = ["a := x < 1"] + ["a := not a"] * 9
        self.assertEqual(run(tuple(lines)), ("done",) * 10)
        self.assertEqual(last(*lines, "a := not a"), "BadText 5")
        self.assertEqual(last(*lines, "b := x < 2 | y < 1 & a"), "BadText 11")
        self.assertEqual(self.shown(*lines, "a := not a"), {"a": "not " * 9 + "x - 1 < 0"})
        parts = " | ".join(f"[x < {2 * k} | x < {2 * k + 1}]" for k in range(4))
        eight = "a := " + parts
        self.assertEqual(run((eight, "b := x < 9", "c := b | a", "c := b | a | x < 1", "c := a | x < 3", "names")), ("done", "done", "TooMany", "TooMany", "done", "a b c"))
        self.assertEqual(last(eight, "a := a | x < 9", "show a"), saying_text(read_saying(parts)))

    def test_as_if_definitions_stood_ahead(self):
        book = "let d = x^2 + y^2 < 1; let s = some y: d; let h = x < y | s;"
        lines = (DISC, "s := some y: d", "h := x < y | s")
        for words in ("d", "h & d", "all x: [h | not s]", "[h] & [h]"):
            self.assertEqual(last(*lines, "e := " + words, "show e"), saying_text(read_scene(book + words)))


class CommandsTest(unittest.TestCase):
    LINES = (DISC, "s := some y: d", "t := some x: d", "c := all x: s", "h := x > y", "e := x = 0 & x != 0", "m := x^2 = 2 & x > 0")

    def check(self, *pairs):
        for line, answer in pairs:
            self.assertEqual(last(*self.LINES, line), answer, line)
            spaced = "  " + line.replace(" ", "   ") + "  "
            self.assertEqual(last(*self.LINES, spaced), answer, spaced)

    def test_nothing(self):
        self.assertEqual(run(()), ())
        self.assertEqual(run(("", " ", "     ")), ("", "", ""))
        self.assertEqual(run(("\n", "\t", " \n ")), ("?", "?", "?"))

    def test_names(self):
        self.assertEqual(run(("names", DISC, "names", "c := d", "names", "a_ := d", "a9 := d", "a := d", "names")), ("", "done", "d", "done", "c d", "done", "done", "done", "a a9 a_ c d"))
        self.assertEqual(run((DISC, DISC, "names")), ("done", "done", "d"))

    def test_show_and_free(self):
        self.check(("show d", "y^2 + x^2 - 1 < 0"), ("show s", "some y: y^2 + x^2 - 1 < 0"), ("show e", "x = 0 & x != 0"), ("free d", "x y"), ("free s", "x"), ("free t", "y"), ("free c", "none"), ("free e", "x"))

    def test_true(self):
        self.check(("true c", "no"), ("true d", "InvalidSaying"), ("true s", "InvalidSaying"), ("true t", "InvalidSaying"))
        self.assertEqual(run(("a := all x: some y: y > x", "true a", "b := not a", "true b", "c := true", "true c")), ("done", "yes", "done", "no", "done", "yes"))

    def test_form(self):
        self.check(("form s", "-1 < x < 1"), ("form t", "-1 < y < 1"), ("form c", "none"), ("form d", "InvalidLetter"), ("form h", "InvalidLetter"), ("form e", "none"), ("form m", "x = root(x^2 - 2, 1)"))
        self.assertEqual(run(("a := true", "form a", "b := y^2 = 2", "form b", "c := some x: x = y", "form c")), ("done", "all", "done", "y = root(x^2 - 2, 0) or y = root(x^2 - 2, 1)", "done", "all"))
        words = "some y: y^3 + x*y + 1 = 0 & x != 3"
        self.assertEqual(run(("a := " + words, "form a"))[1], form_text("x", form_of(read_saying(words), "x")))

    def test_alike_and_follows(self):
        self.check(("alike d d", "yes"), ("alike d s", "no"), ("alike s d", "no"), ("alike c e", "yes"), ("follows d s", "yes"), ("follows s d", "no"), ("follows d d", "yes"), ("follows e d", "yes"), ("follows d e", "no"),
                   ("follows c h", "yes"), ("follows h c", "no"))
        self.assertEqual(last(DISC, "e := not x^2 >= 1 - y^2", "alike d e"), "yes")

    def test_at(self):
        self.check(("at d 1/2 0", "yes"), ("at d 1 0", "no"), ("at d 0 -1", "no"), ("at d -1/2 -1/2", "yes"), ("at d 2/4 6/12", "yes"), ("at d 100/200 0/7", "yes"), ("at d -0 -0/5", "yes"), ("at d 007/0010 00", "yes"),
                   ("at h 1 0", "yes"), ("at h 0 1", "no"), ("at s 1/2 99", "yes"), ("at c 0 0", "no"), ("at e 0 0", "no"), ("at d 4/5 3/5", "no"), ("at d 4/5 2999999999999/5000000000000", "yes"))
        for words in ("1/0 0", "0 1/0", "0 1/00", "1/2", "1", "0 0 0", "+1 0", "1. 0", "1.5 0", "0 1/", "/2 0", "- 1 0", "-/2 0", "--1 0", "1/-2 0", "1/2/3 0", "x 0", "0 y", "1-1 0", "1/2- 0", "1 /2", "1/ 2", "", "0 -", "1_0 0", "'1' 0"):
            self.assertEqual(last(DISC, "at d " + words), "?", words)
            self.assertEqual(last("at d " + words), "?", words)

    def test_letters(self):
        saying = read_saying("x^2 + y^2 < 1")
        self.check(("letters d -2 -2 2 2 3", "...\n.#.\n..."), ("letters h 0 0 1 1 2", "..\n.#"), ("letters h 0 0 1 1 3", "...\n..#\n.##"),
                   ("letters d -3/2 -1 6/4 1 5", "\n".join(letters(saying, ((-3, 2), (-1, 1)), ((3, 2), (1, 1)), 5))), ("letters d -1 -1 1 1 1", "#"), ("letters d -1 -1 1 1 0002", "##\n##"),
                   ("letters s 0 0 2 2 2", "#.\n#."), ("letters d 0 0 0 1 2", "InvalidPoint"), ("letters d 0 0 1 0 2", "InvalidPoint"), ("letters d 1 1 0 0 0", "InvalidPoint"), ("letters d 0 0 1 1 0", "InvalidCount"),
                   ("letters d 0 0 1 1 49", "InvalidCount"), ("letters d 0 0 1 1 00", "InvalidCount"))
        self.assertEqual(len(last(DISC, "letters d 0 0 1 1 48").split("\n")), 48)
        for words in ("0 0 1 1", "0 0 1 1 2 3", "0 0 1 1 -2", "0 0 1 1 2/1", "0 0 1 1 x", "0 0 1 1/0 2", "0 0 1 x 2", "", "0 0 1 1 +2"):
            self.assertEqual(last(DISC, "letters d " + words), "?", words)
            self.assertEqual(last("letters d " + words), "?", words)

    def test_strike(self):
        self.assertEqual(run((DISC, "strike d", "names", "show d", "strike d", "d := x < 1", "show d")), ("done", "done", "", "UnknownName", "UnknownName", "done", "x - 1 < 0"))
        self.assertEqual(run((DISC, "e := d", "strike d", "show e", "f := d")), ("done", "done", "done", "y^2 + x^2 - 1 < 0", "BadText 5"))

    def test_unknown_names_ahead_of_other_errors(self):
        self.check(("show a", "UnknownName"), ("free a", "UnknownName"), ("true a", "UnknownName"), ("form a", "UnknownName"), ("strike a", "UnknownName"), ("alike a d", "UnknownName"), ("alike d a", "UnknownName"), ("alike a b", "UnknownName"),
                   ("follows d a", "UnknownName"), ("follows a d", "UnknownName"), ("at a 0 0", "UnknownName"), ("letters a 1 1 0 0 0", "UnknownName"), ("letters a 0 0 1 1 49", "UnknownName"), ("show x", "UnknownName"), ("show 5", "UnknownName"),
                   ("true :=", "UnknownName"), ("show D", "UnknownName"), ("show d,", "UnknownName"), ("show names", "UnknownName"), ("at true 0 0", "UnknownName"), ("show " + "q" * 99, "UnknownName"))

    def test_what_is_not_understood(self):
        self.check(("go", "?"), ("show", "?"), ("show d d", "?"), ("names d", "?"), ("free", "?"), ("true", "?"), ("true d d", "?"), ("form", "?"), ("form d x", "?"), ("alike d", "?"), ("alike d d d", "?"), ("follows d", "?"), ("follows", "?"), ("at", "?"),
                   ("at d", "?"), ("letters", "?"), ("letters d", "?"), ("strike", "?"), ("strike d s", "?"), ("Show d", "?"), ("SHOW d", "?"), ("d", "?"), ("shows d", "?"), ("?", "?"), ("d :", "?"), ("=", "?"), ("not d", "?"), ("some y: d", "?"),
                   ("show d := x < 1", "?"), ("show:d", "?"), ("names # all", "?"), ("showd", "?"), ("let", "?"))
        self.assertEqual(last(DISC, "show :="), "BadText 7")
        self.assertEqual(last(DISC, "show\td"), "?")
        self.assertEqual(last(DISC, "show d\n"), "UnknownName")
        self.assertEqual(last(DISC, "\nshow d"), "?")

    def test_nothing_changes_by_what_is_refused(self):
        refused = ("d := x <", "d := e", "d := not d & e", "strike e", "show e", "true d", "form d", "at d 1 1/0", "letters d 0 0 0 0 3", "letters d 0 0 1 1 99", "go", "strike", "strike d d", "d = x < 1", "x := x < 1", "")
        for line in refused:
            self.assertEqual(run((DISC, line, "names", "show d"))[2:], ("d", "y^2 + x^2 - 1 < 0"), line)
        self.assertEqual(run((DISC,) + refused + ("names", "show d"))[-2:], ("d", "y^2 + x^2 - 1 < 0"))


class ArgumentsTest(unittest.TestCase):
    def test_lines(self):
        self.assertEqual(list(inspect.signature(run).parameters), ["lines"])
        lines = (DISC, "names", "go")
        before = copy.deepcopy(lines)
        self.assertEqual(run(lines=lines), run(lines))
        self.assertEqual(run(lines), ("done", "d", "?"))
        self.assertEqual(lines, before)

    def test_each_run_begins_without_names(self):
        run((DISC,))
        self.assertEqual(run(("names", "show d")), ("", "UnknownName"))

    def test_refused(self):
        for value in ODD + [["names"], "names"]:
            if not isinstance(value, tuple):
                with self.assertRaises(InvalidLines) as caught:
                    run(value)
                self.assertIs(caught.exception.index, None)
        for value in [each for each in ODD if not isinstance(each, str)]:
            for lines, index in (((value,), 0), (("names", value, value), 1), (("go", "d := x <", "", value), 3)):
                with self.assertRaises(InvalidLines) as caught:
                    run(lines)
                self.assertEqual(caught.exception.index, index)


if __name__ == "__main__":
    unittest.main()
