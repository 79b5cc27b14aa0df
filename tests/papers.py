"""Papers that are checked line by line with patterns, and lines that are spoiled."""

import re
from fractions import Fraction

from texts import spoiled

NUMBER = "(?:0|[1-9][0-9]{0,59})"
WORDS = ["0", "1", "-1", "1/2", "2", "x", ""]


def is_ratio(word):
    return bool(re.fullmatch(f"-?{NUMBER}(?:/[1-9][0-9]{{0,59}})?", word)) and str(Fraction(word)) == word


def are_ratios(line, many):
    words = line.split(" ")
    return len(words) == many and all(map(is_ratio, words))


def first_wrong_line(one, other, lines):
    """The index that BadPaper has for lines about two machines, or None if they write something that is found."""
    head = re.fullmatch("apart|same ([1-9]|1[0-9]|2[0-4])", lines[0]) if lines else None
    if not head:
        return 0
    if lines[0] == "apart":
        step = f"[0-{one.buttons() - 1}] [0-{one.answers() - 1}]"
        wrong = [at for at in range(1, len(lines)) if not re.fullmatch(step, lines[at])]
        return wrong[0] if wrong else None
    many = int(head[1])
    widths = [one.states() + other.states()] * many + [many] * (1 + many * one.buttons() * one.answers())
    for at, line in list(enumerate(lines))[1:]:
        if at > len(widths) or not are_ratios(line, widths[at - 1]):
            return at
    return None if len(lines) == len(widths) + 1 else len(lines)


def first_wrong_thin_line(machine, lines):
    """The index that BadPaper has for lines about a machine, or None if they write a thinning."""
    states = [str(state) for state in range(machine.states())]
    kept = lines[0].split(" ") if lines else []
    if not kept or not set(kept) <= set(states) or sorted(set(kept), key=int) != kept:
        return 0
    others = [state for state in states if state not in kept]
    for at, line in list(enumerate(lines))[1:]:
        state, _, lots = line.partition(" ")
        if at > len(others) or state != others[at - 1] or not are_ratios(lots, len(kept)):
            return at
        lots = [Fraction(word) for word in lots.split(" ")]
        if sum(lots) != 1 or min(lots) < 0:
            return at
    return None if len(lines) == len(others) + 1 else len(lines)


def spoiled_lines(lines, words=WORDS):
    """The lines with a word or a line changed, put in, left out, doubled or moved, at each place."""
    for at, line in enumerate(lines):
        for changed in spoiled(line.split(" "), words):
            yield lines[:at] + [" ".join(changed)] + lines[at + 1:]
        for changed in (" " + line, line + " ", line.replace(" ", "  ", 1), line.replace(" ", "\t"), line + "\n"):
            yield lines[:at] + [changed] + lines[at + 1:]
        without = lines[:at] + lines[at + 1:]
        for place in range(len(lines)):
            yield without[:place] + [line] + without[place:]
    yield from spoiled(lines, ["", " ", "0", "0 0", "1 0", "1", "apart", "same 1"])
    for many in range(len(lines)):
        yield lines[:many]
