"""The forms of [31] once more, as rules; all ways to go on are followed at one time."""

import re

RULES = {
    "SUM": [["-", "PRODUCT", "SUMS"], ["PRODUCT", "SUMS"]],
    "SUMS": [[], ["+", "PRODUCT", "SUMS"], ["-", "PRODUCT", "SUMS"]],
    "PRODUCT": [["POWER", "POWERS"]],
    "POWERS": [[], ["*", "POWER", "POWERS"]],
    "POWER": [["BASE", "RAISED"]],
    "RAISED": [[], ["^", "digits"]],
    "BASE": [["digits"], ["x"], ["y"], ["OPEN", "(", "SUM", ")", "SHUT"]],
    "SAYING": [["COMMON", "COMMONS"]],
    "COMMONS": [[], ["|", "COMMON", "COMMONS"]],
    "COMMON": [["PREFIXED", "PREFIXES"]],
    "PREFIXES": [[], ["&", "PREFIXED", "PREFIXES"]],
    "PREFIXED": [["OPEN", "not", "PREFIXED", "SHUT"], ["OPEN", "QUANTIFIER", "LETTER", ":", "PREFIXED", "SHUT"], ["ATOM"]],
    "QUANTIFIER": [["all"], ["some"]],
    "LETTER": [["x"], ["y"]],
    "ATOM": [["true"], ["false"], ["name"], ["OPEN", "[", "SAYING", "]", "SHUT"], ["SUM", "RELATION", "SUM"]],
    "RELATION": [["<"], ["<="], ["="], ["!="], [">"], [">="]],
    "BOOK": [[], ["let", "name", "=", "SAYING", ";", "BOOK"]],
    "SCENE": [["BOOK", "SAYING"]],
}
KEPT = {"x", "y", "true", "false", "not", "all", "some", "let"}
WORD = re.compile(r"#[^\n]*|[ \n]+|[0-9]+|[a-z][a-z0-9_]*|<=|>=|!=|.")


def words(text):
    return [(match.start(), match.group()) for match in WORD.finditer(text) if match.group()[0] not in "# \n"]


def kind(word):
    if word[0].isdigit():
        return "digits" if len(word) <= 100 else None
    if word[0] in "abcdefghijklmnopqrstuvwxyz" and word not in KEPT:
        return "name" if len(word) <= 24 else None
    return word


def grown(states):
    """All states that come of some by rules alone: pairs of what is to come, and how many are open."""
    found, waiting = set(), list(states)
    while waiting:
        state = waiting.pop()
        if state in found:
            continue
        found.add(state)
        stack, is_open = state
        if not stack:
            continue
        first, rest = stack[0], stack[1:]
        if first == "OPEN":
            if is_open < 24:
                waiting.append((rest, is_open + 1))
        elif first == "SHUT":
            waiting.append((rest, is_open - 1))
        else:
            waiting.extend((tuple(rule) + rest, is_open) for rule in RULES.get(first, ()))
    return found


def wrong_spot(text, form):
    """The spot of the first word with which no text goes on, or of the end; None for a text of the form."""
    states = grown({((form,), 0)})
    for spot, word in words(text):
        told = kind(word)
        states = grown({(stack[1:], is_open) for stack, is_open in states if stack and stack[0] == told})
        if not states:
            return spot
    return None if any(not stack for stack, _ in states) else len(text)
