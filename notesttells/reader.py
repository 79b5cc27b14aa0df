"""Reading the texts of boxes and of surroundings word by word."""

from notesttells.errors import BadText
from notesttells.machine import MOST_ANSWERS, MOST_BUTTONS
from notesttells.words import number_of

STATEMENTS = ("set", "draw", "use", "say", "if")
OPERATORS = ("+", "-", "*", "/", "mod", "<", "=")
RESERVED = (
    "buttons", "answers", "var", "start", "press", "set", "draw", "use", "say", "if", "else", "end", "mod",
)
MOST_VARIABLES = 4
MOST_LETTERS = 8
MOST_SIZE = 12
MOST_DRAWN = 6
MOST_DRAWS = 3
MOST_USES = 24
MOST_NUMBER = 65535
DEEPEST_IF = 4
DEEPEST_EXPRESSION = 5


class Reader:
    """The words of a text, `at` the one that is to be read next, and what was read so far.

    All words ahead of `at` are the beginning of some text, so BadText with `at` is due if this word does not fit,
    or if there is none. `around` is True for surroundings, `pressed` where the statements of a press are read.
    """

    def __init__(self, words, around):
        self.words = words
        self.at = 0
        self.around = around
        self.variables = []
        self.draws = 0
        self.uses = 0
        self.pressed = False

    def read(self):
        """The buttons, answers, variables, statements at the start and statements at a press."""
        self._take("buttons")
        buttons = self._number(1, MOST_BUTTONS)
        self._take("answers")
        answers = self._number(1, MOST_ANSWERS)
        while self._here() == "var" and len(self.variables) < MOST_VARIABLES:
            self.at += 1
            name = self._new_name()
            self.variables.append((name, self._number(1, MOST_SIZE)))
        self._take("start")
        start = self._statements(0)
        self._take("press")
        self.pressed = True
        block = self._statements(0)
        if self.at < len(self.words):
            raise BadText(self.at)
        return buttons, answers, self.variables, start, block

    def _here(self):
        """The word that is to be read next, or the empty word, which fits nowhere, if there is none."""
        return self.words[self.at] if self.at < len(self.words) else ""

    def _go_on(self, fits):
        """Returns the word that is to be read next and goes on behind it, if it fits."""
        if not fits:
            raise BadText(self.at)
        self.at += 1
        return self.words[self.at - 1]

    def _take(self, word):
        """Goes on behind this word."""
        self._go_on(self._here() == word)

    def _number(self, least, most):
        number = number_of(self._here(), most)
        self._go_on(number is not None and number >= least)
        return number

    def _new_name(self):
        name = self._here()
        return self._go_on(_is_name(name) and not self._is_variable(name))

    def _variable(self):
        return self._go_on(self._is_variable(self._here()))

    def _is_variable(self, word):
        return word in [name for name, _ in self.variables]

    def _may_begin(self, word, depth):
        """True if the word may begin a statement inside so many `if`."""
        if word == "if":
            return depth < DEEPEST_IF
        if word == "say":
            return self.pressed
        if word == "draw" and self.draws >= MOST_DRAWS:
            return False
        if word == "use" and (not self.around or self.uses >= MOST_USES):
            return False
        # Without variables no word could follow these.
        return word in ("set", "draw", "use") and len(self.variables) > 0

    def _statements(self, depth):
        """The statements up to a word that begins none, inside so many `if`."""
        found = []
        while self._may_begin(self._here(), depth):
            found.append(self._statement(depth))
        return found

    def _statement(self, depth):
        word = self._here()
        self.at += 1
        if word == "if":
            return self._choice(depth + 1)
        if word == "say":
            return ("say", self._expression(1))
        name = self._variable()
        if word == "draw":
            self.draws += 1
            return ("draw", name, self._number(1, MOST_DRAWN))
        if word == "use":
            self.uses += 1
        return (word, name, self._expression(1))

    def _choice(self, depth):
        """The `if` of this depth, behind its first word."""
        asked = self._expression(1)
        chosen = self._statements(depth)
        others = []
        if self._here() == "else" and any([self._may_begin(word, depth) for word in STATEMENTS]):
            self.at += 1
            others = self._statements(depth)
            if len(others) == 0:
                raise BadText(self.at)
        self._take("end")
        return ("if", asked, chosen, others)

    def _expression(self, depth):
        """The expression that stands so deep in another one; a whole one has the depth 1."""
        word = self._here()
        if word in OPERATORS and depth < DEEPEST_EXPRESSION:
            self.at += 1
            one = self._expression(depth + 1)
            return (word, one, self._expression(depth + 1))
        leaf = self._leaf(word)
        self._go_on(leaf is not None)
        return leaf

    def _leaf(self, word):
        """The expression that the word writes by itself, or None."""
        number = number_of(word, MOST_NUMBER)
        if number is not None:
            return ("number", number)
        if self._is_variable(word):
            return ("variable", word)
        return ("press",) if word == "press" and self.pressed else None


def _is_name(word):
    """True for a name that a variable may have."""
    if len(word) > MOST_LETTERS or word in RESERVED:
        return False
    return word.isascii() and word.isalpha() and word.islower()
