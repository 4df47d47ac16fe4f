"""Texts read word by word.

What is not of the form is told at once. What has a fault of another kind is noted and
told at the end: the form goes ahead of it, and what stands further left ahead of what
stands behind.
"""

from twoletters.errors import BadText
from twoletters.saywork import LETTERS
from twoletters.terms import MOST_POWER, is_within_limits, made_by, number_poly
from twoletters.words import DIGITS, is_free_name, words_of

DEEPEST = 10
MOST_OPEN = 24
MOST_DIGITS = 100
END = ""
LETTER_POLYS = {"x": ((0, 1),), "y": ((), (1,))}
RELATION_OF = {
    "<": "below",
    "<=": "not above",
    "=": "at",
    "!=": "not at",
    ">": "above",
    ">=": "not below",
}


class Reader:
    """A text that is being read.

    POLYs are None where they have a fault. Sayings are told as pairs with how deep they
    are, and are None where they have a fault.
    """

    def __init__(self, text):
        self.words = words_of(text)
        self.size = len(text)
        self.at = 0
        self.many_open = 0
        self.faults = []
        self.known = {}

    def next_word(self):
        """The next word; "" at the end."""
        return self.words[self.at][1] if self.at < len(self.words) else END

    def next_spot(self):
        return self.words[self.at][0] if self.at < len(self.words) else self.size

    def refuse(self):
        raise BadText(self.next_spot())

    def step(self):
        """Go past a word, the spot of which is told."""
        spot = self.next_spot()
        self.at += 1
        return spot

    def expect(self, words):
        if self.next_word() not in words:
            self.refuse()
        return self.step()

    def step_into(self):
        """Go past a word that opens a bracket or a prefix."""
        if self.many_open == MOST_OPEN:
            self.refuse()
        self.many_open += 1
        return self.step()

    def step_out(self, bracket):
        self.expect((bracket,))
        self.many_open -= 1

    def finish(self):
        """Tell the fault that stands first."""
        if self.next_word() != END:
            self.refuse()
        if self.faults:
            raise BadText(min(self.faults))

    def made(self, sign, spot, one, other):
        """What a sign makes of parts that have no fault themselves."""
        if one is None or other is None:
            return None
        found = made_by(sign, one, other)
        if is_within_limits(found):
            return found
        self.faults.append(spot)
        return None

    def read_sum(self):
        if self.next_word() == "-":
            found = self.made("-", self.step(), (), self.read_product())
        else:
            found = self.read_product()
        while self.next_word() in ("+", "-"):
            sign = self.next_word()
            spot = self.step()
            found = self.made(sign, spot, found, self.read_product())
        return found

    def read_product(self):
        found = self.read_power()
        while self.next_word() == "*":
            spot = self.step()
            found = self.made("*", spot, found, self.read_power())
        return found

    def read_power(self):
        found = self.read_base()
        if self.next_word() != "^":
            return found
        spot = self.step()
        many = int(self.read_digits())
        if many <= MOST_POWER:
            return self.made("^", spot, found, many)
        self.faults.append(self.words[self.at - 1][0])
        return None

    def read_digits(self):
        word = self.next_word()
        if word == END or word[0] not in DIGITS or len(word) > MOST_DIGITS:
            self.refuse()
        self.step()
        return word

    def read_base(self):
        word = self.next_word()
        if word == "(":
            self.step_into()
            found = self.read_sum()
            self.step_out(")")
            return found
        if word in LETTER_POLYS:
            self.step()
            return LETTER_POLYS[word]
        return number_poly(self.read_digits())

    def read_relation(self):
        one = self.read_sum()
        sign = self.next_word()
        spot = self.expect(list(RELATION_OF))
        found = self.made(sign, spot, one, self.read_sum())
        return (None if found is None else (RELATION_OF[sign], found), 1)

    def put_together(self, spot, told, parts):
        """The saying of some words and of parts, none of which has a fault; one that is not too deep."""
        deep = 1 + max([part[1] for part in parts])
        if deep > DEEPEST:
            self.faults.append(spot)
        if deep > DEEPEST or None in [part[0] for part in parts]:
            return (None, deep)
        return (told + tuple([part[0] for part in parts]), deep)

    def read_saying(self):
        found = self.read_common()
        while self.next_word() == "|":
            spot = self.step()
            found = self.put_together(spot, ("either",), (found, self.read_common()))
        return found

    def read_common(self):
        found = self.read_prefixed()
        while self.next_word() == "&":
            spot = self.step()
            found = self.put_together(spot, ("both",), (found, self.read_prefixed()))
        return found

    def read_prefixed(self):
        word = self.next_word()
        if word not in ("not", "all", "some"):
            return self.read_atom()
        spot = self.step_into()
        told = (word,)
        if word != "not":
            told = (word, self.next_word())
            self.expect(LETTERS)
            self.expect((":",))
        found = self.put_together(spot, told, (self.read_prefixed(),))
        self.many_open -= 1
        return found

    def read_atom(self):
        word = self.next_word()
        if word in ("true", "false"):
            self.step()
            return ((word,), 1)
        if word == "[":
            self.step_into()
            found = self.read_saying()
            self.step_out("]")
            return found
        return self.read_name() if is_free_name(word) else self.read_relation()

    def read_name(self):
        name = self.next_word()
        spot = self.step()
        if name in self.known:
            return self.known[name]
        self.faults.append(spot)
        return (None, 1)

    def read_book(self):
        """Read all DEFINITIONs that stand next."""
        while self.next_word() == "let":
            self.step()
            name = self.next_word()
            if not is_free_name(name):
                self.refuse()
            spot = self.step()
            self.expect(("=",))
            found = self.read_saying()
            self.expect((";",))
            if name in self.known:
                self.faults.append(spot)
            else:
                self.known[name] = found
