"""Papers: lines that write what is found about two machines, and thinnings."""

from notesttells.errors import BadPaper
from notesttells.ratio import are_lots
from notesttells.tell import Found
from notesttells.thin import Thinning
from notesttells.words import number_of, ratio_of, words_of

MOST_VECTORS = 24


def paper_lines(found):
    """The lines of what is found about two machines."""
    if found.kind == "apart":
        return ["apart"] + [f"{button} {answer}" for button, answer in found.way]
    rows = found.vectors + [found.start] + found.moves
    return [f"same {len(found.vectors)}"] + [_ratios_line(row) for row in rows]


def read_paper(one, other, lines):
    """The Found that lines write for two machines that fit."""
    if len(lines) == 0:
        raise BadPaper(0)
    if lines[0] == "apart":
        most = (one.buttons() - 1, one.answers() - 1)
        return Found("apart", [], [], [], _read_rest(lines, [most] * (len(lines) - 1), _step))
    many = _many(words_of(lines[0]))
    if many is None:
        raise BadPaper(0)
    widths = [one.states() + other.states()] * many + [many] * (1 + many * one.buttons() * one.answers())
    rows = _read_rest(lines, widths, _ratios)
    return Found("same", rows[:many], rows[many], rows[many + 1:], None)


def thin_lines(thinning):
    """The lines of a thinning."""
    pairs = [f"{state} {_ratios_line(lots)}" for state, lots in thinning.lots]
    return [" ".join([str(state) for state in thinning.kept])] + pairs


def read_thin(machine, lines):
    """The Thinning that lines write for a machine."""
    kept = _ascending(words_of(lines[0]), machine.states()) if len(lines) > 0 else None
    if kept is None:
        raise BadPaper(0)
    forms = [(state, len(kept)) for state in range(machine.states()) if state not in kept]
    return Thinning(kept, _read_rest(lines, forms, _pair))


def _ratios_line(ratios):
    return " ".join([str(ratio) for ratio in ratios])


def _read_rest(lines, forms, read):
    """What the lines behind the first one write: one line for each form, which is read from its words."""
    found = []
    for at in range(1, len(lines)):
        value = read(words_of(lines[at]), forms[at - 1]) if at <= len(forms) else None
        if value is None:
            raise BadPaper(at)
        found.append(value)
    if len(found) < len(forms):
        raise BadPaper(len(lines))
    return found


def _many(words):
    """The number of vectors that the first line writes, or None."""
    if len(words) != 2 or words[0] != "same" or words[1] == "0":
        return None
    return number_of(words[1], MOST_VECTORS)


def _step(words, most):
    """The pair of a button and an answer up to the most of both, or None."""
    if len(words) != 2:
        return None
    button, answer = number_of(words[0], most[0]), number_of(words[1], most[1])
    return (button, answer) if button is not None and answer is not None else None


def _ratios(words, many):
    """So many fractions, or None."""
    found = [ratio_of(word) for word in words]
    return found if len(found) == many and None not in found else None


def _ascending(words, many):
    """One or more of so many states in ascending order, or None."""
    found = [number_of(word, many - 1) for word in words]
    if len(found) == 0 or None in found:
        return None
    return found if found == [state for state in range(many) if state in found] else None


def _pair(words, form):
    """The pair of the state and its lots, of the state and the number of lots that the form tells, or None."""
    state, many = form
    lots = _ratios(words[1:], many)
    return (state, lots) if words[:1] == [str(state)] and lots is not None and are_lots(lots) else None
