"""Boxes, and the texts that write them."""

from notesttells.reader import Reader
from notesttells.words import words_of


class Box:
    """A box or a surrounding: its statements at the start and, in `block`, those at a press."""

    def __init__(self, buttons, answers, variables, start, block):
        self.buttons = buttons
        self.answers = answers
        self.variables = _kept(variables)
        self.start = _kept(start)
        self.block = _kept(block)

    def __eq__(self, other):
        return (
            isinstance(other, Box) and self.buttons == other.buttons and self.answers == other.answers
            and self.variables == other.variables and self.start == other.start and self.block == other.block
        )


def _kept(value):
    """A copy in which all lists are tuples."""
    return tuple([_kept(part) for part in value]) if isinstance(value, (list, tuple)) else value


def read_box(text):
    """The Box that the text of a box writes."""
    return _read(text, False)


def read_around(text):
    """The Box that the text of a surrounding writes."""
    return _read(text, True)


def _read(text, around):
    buttons, answers, variables, start, block = Reader(words_of(text), around).read()
    return Box(buttons, answers, variables, start, block)


def box_text(box):
    """The text of a box or of a surrounding."""
    words = [f"buttons {box.buttons} answers {box.answers}"]
    words.extend([f"var {name} {size}" for name, size in box.variables])
    return " ".join([*words, "start", *_block_words(box.start), "press", *_block_words(box.block)])


def _block_words(block):
    return [_statement_text(statement) for statement in block]


def _statement_text(statement):
    word = statement[0]
    if word == "if":
        return _choice_text(statement)
    if word == "say":
        return f"say {_expression_text(statement[1])}"
    if word == "draw":
        return f"draw {statement[1]} {statement[2]}"
    return f"{word} {statement[1]} {_expression_text(statement[2])}"


def _choice_text(statement):
    _, asked, chosen, others = statement
    words = ["if", _expression_text(asked), *_block_words(chosen)]
    if len(others) > 0:
        words.extend(["else", *_block_words(others)])
    return " ".join([*words, "end"])


def _expression_text(expression):
    word = expression[0]
    if word in ("number", "variable"):
        return str(expression[1])
    if word == "press":
        return "press"
    return f"{word} {_expression_text(expression[1])} {_expression_text(expression[2])}"
