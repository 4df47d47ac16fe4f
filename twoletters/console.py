"""A console: lines that keep sayings under names and ask for what is so."""

from twoletters.errors import BadText, InvalidCount, InvalidLetter, InvalidLines, InvalidPoint, InvalidSaying, TooMany
from twoletters.parsing import Reader
from twoletters.pictures import letters
from twoletters.printer import form_text, saying_text
from twoletters.reader import check_many
from twoletters.saywork import depth_in, free_in
from twoletters.truths import are_alike, does_follow, form_of, is_true, truth_at
from twoletters.wholes import fraction_of
from twoletters.words import DIGITS, IN_NAMES, end_of_run, is_free_name

UNKNOWN = "UnknownName"
NOT_UNDERSTOOD = "?"
# How many names, and how many numbers behind them, each command has; "letters" has digits behind these.
NAMES = {"show": 1, "free": 1, "true": 1, "form": 1, "alike": 2, "follows": 2, "at": 1, "letters": 1, "strike": 1}
NUMBERS = {"at": 2, "letters": 4}


def are_digits(word):
    return word != "" and end_of_run(word, 0, DIGITS) == len(word)


def number_told(word):
    """The fraction of a word; None if it is none."""
    digits = word[1:] if word.startswith("-") else word
    upper, slash, lower = digits.partition("/")
    if not are_digits(upper) or (slash and (not are_digits(lower) or int(lower) == 0)):
        return None
    n = -int(upper) if word.startswith("-") else int(upper)
    return fraction_of(n, int(lower) if slash else 1)


def yes_or_no(truth):
    return "yes" if truth else "no"


def own_form_text(saying):
    """The text of the form, for y if y alone is free, otherwise for x."""
    letter = "y" if free_in(saying) == ("y",) else "x"
    return form_text(letter, form_of(saying, letter))


def put_spot(line):
    """The index behind the sign := if the line begins with a free name and it; None otherwise."""
    first = end_of_run(line, 0, " ")
    last = end_of_run(line, first, IN_NAMES)
    behind = end_of_run(line, last, " ")
    is_put = is_free_name(line[first:last]) and line[behind:behind + 2] == ":="
    return behind + 2 if is_put else None


class Console:
    """What is kept under names."""

    def __init__(self):
        self.kept = {}

    def answer(self, line):
        try:
            return self.answer_well(line)
        except BadText as e:
            return "BadText " + str(e.spot)
        except InvalidSaying:
            return "InvalidSaying"
        except TooMany:
            return "TooMany"
        except InvalidLetter:
            return "InvalidLetter"
        except InvalidPoint:
            return "InvalidPoint"
        except InvalidCount:
            return "InvalidCount"

    def answer_well(self, line):
        """The answer, if there is no error."""
        words = [word for word in line.split(" ") if word]
        if not words:
            return ""
        behind = put_spot(line)
        if behind is not None:
            return self.put(line, behind)
        if words == ["names"]:
            return " ".join(sorted(list(self.kept)))
        return self.answer_command(words[0], words[1:])

    def put(self, line, behind):
        """Keep what stands behind an index; blanks stand for what is ahead, so that spots are those in the line."""
        reader = Reader(" " * behind + line[behind:])
        for name, saying in self.kept.items():
            reader.known[name] = (saying, depth_in(saying))
        saying = reader.read_saying()[0]
        reader.finish()
        check_many([saying])
        self.kept[line[:behind - 2].strip(" ")] = saying
        return "done"

    def answer_command(self, command, words):
        many = NAMES.get(command, 0)
        last = many + NUMBERS.get(command, 0)
        numbers = [number_told(word) for word in words[many:last]]
        digits = words[last:]
        has_form = many > 0 and len(words) == last + (1 if command == "letters" else 0)
        if not has_form or None in numbers or not all([are_digits(word) for word in digits]):
            return NOT_UNDERSTOOD
        if not all([name in self.kept for name in words[:many]]):
            return UNKNOWN
        if command == "strike":
            del self.kept[words[0]]
            return "done"
        return answered(command, [self.kept[name] for name in words[:many]], numbers, digits)


def answered(command, sayings, numbers, digits):
    """What is answered to a command that strikes nothing."""
    saying = sayings[0]
    if command == "show":
        return saying_text(saying)
    if command == "free":
        return " ".join(free_in(saying)) or "none"
    if command == "true":
        return yes_or_no(is_true(saying))
    if command == "form":
        return own_form_text(saying)
    if command == "alike":
        return yes_or_no(are_alike(saying, sayings[1]))
    if command == "follows":
        return yes_or_no(does_follow(saying, sayings[1]))
    if command == "at":
        return yes_or_no(truth_at(saying, (numbers[0], numbers[1])))
    low, high = (numbers[0], numbers[1]), (numbers[2], numbers[3])
    return "\n".join(letters(saying, low, high, int(digits[0])))


def run(lines):
    """What is answered to the lines, in order."""
    if not isinstance(lines, tuple):
        raise InvalidLines(None)
    for index, line in enumerate(lines):
        if not isinstance(line, str):
            raise InvalidLines(index)
    console = Console()
    return tuple([console.answer(line) for line in lines])
