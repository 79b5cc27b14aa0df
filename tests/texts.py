"""Texts of boxes and of surroundings: written, drawn, spoiled and checked, without the reader of the program."""

OPERATORS = ("+", "-", "*", "/", "mod", "<", "=")
RESERVED = ("buttons", "answers", "var", "start", "press", "set", "draw", "use", "say", "if", "else", "end", "mod")
NAMES = ("x", "y", "abcdefgh", "presses")

BOX = (
    "buttons 2 answers 3 var x 4 var y 2 var abcdefgh 12 start draw x 3 if < x 2 set y 1 else set abcdefgh mod x 65535"
    " end press if = press 1 draw y 2 say + x y else if y set x - 3 x end say * 2 / abcdefgh 3 end set y 0"
)
AROUND = (
    "buttons 1 answers 2 var x 4 var y 2 start use x 3 press set y 1 use x + press y set y * y = x 0"
    " if y use y 0 if x end else say 0 end say y"
)


def words_of(data):
    """The words of statements or expressions, which stand in the data in the order of the text."""
    if isinstance(data, (tuple, list)) and data and data[0] == "if":
        _, asked, chosen, others = data
        behind = ["else", *words_of(others)] if others else []
        return ["if", *words_of(asked), *words_of(chosen), *behind, "end"]
    if isinstance(data, (tuple, list)):
        parts = data[1:] if data and data[0] in ("number", "variable") else data
        return [word for part in parts for word in words_of(part)]
    return [str(data)]


def written_box(buttons, answers, variables, start, block):
    """The text with these data."""
    words = ["buttons", buttons, "answers", answers]
    for name, size in variables:
        words += ["var", name, size]
    return " ".join(str(word) for word in words + ["start", *words_of(start), "press", *words_of(block)])


class Drawn:
    """The data of a box or a surrounding from a source of numbers, within all bounds."""

    def __init__(self, random, around, variables=None, largest=12, most=12):
        self.random = random
        self.around = around
        self.left = most
        self.draws = 0
        self.uses = 0
        many = random.randint(0, 4) if variables is None else variables
        self.variables = tuple((name, random.randint(1, largest)) for name in random.sample(NAMES, many))

    def data(self):
        start = self.block(0, False)
        block = self.block(0, True)
        return self.random.randint(1, 4), self.random.randint(1, 4), self.variables, start, block

    def block(self, depth, pressed):
        """Up to three statements, as long as there may be more in the whole text."""
        many = min(self.left, self.random.randint(0, 3))
        self.left -= many
        statements = [self.statement(depth, pressed) for _ in range(many)]
        return tuple(statement for statement in statements if statement is not None)

    def statement(self, depth, pressed):
        words = ["say"] * pressed + ["if"] * (depth < 4)
        if self.variables:
            words += ["set", "set"] + ["draw"] * (self.draws < 3) + ["use"] * (self.around and self.uses < 24)
        if not words:
            return None
        word = self.random.choice(words)
        if word == "say":
            return "say", self.expression(1, pressed)
        if word == "if":
            asked = self.expression(1, pressed)
            return "if", asked, self.block(depth + 1, pressed), self.block(depth + 1, pressed)
        name = self.random.choice(self.variables)[0]
        self.draws += word == "draw"
        self.uses += word == "use"
        return word, name, self.random.randint(1, 6) if word == "draw" else self.expression(1, pressed)

    def expression(self, depth, pressed):
        kind = self.random.randrange(6)
        if kind < 2 and depth < 5:
            operator = self.random.choice(OPERATORS)
            return operator, self.expression(depth + 1, pressed), self.expression(depth + 1, pressed)
        if kind < 3 and pressed:
            return ("press",)
        if kind < 5 and self.variables:
            return "variable", self.random.choice(self.variables)[0]
        return "number", self.random.choice((0, 1, 2, 3, 4, 11, 65535, self.random.randrange(65536)))


class Expected:
    """What may follow in a text, as a stack of things whose last one is due first."""

    def __init__(self, around):
        self.around = around
        self.names = []
        self.left = {"draw": 3, "use": 24}
        self.pressed = False
        self.stack = [("block", 0), "turn", ("block", 0), "start", ("variables", 4)]
        self.stack += [("number", 1, 4), "answers", ("number", 1, 4), "buttons"]

    def is_complete(self):
        return self.pressed and self.stack in ([], [("block", 0)])

    def fits(self, word):
        """True if the word may follow; then it does."""
        while self.stack:
            due = self.stack.pop()
            taken = self.take(due, word) if isinstance(due, str) else getattr(self, due[0])(word, *due[1:])
            if taken is not None:
                return taken
        return False

    def take(self, due, word):
        if due == "turn":
            self.pressed = True
            return word == "press"
        if due == "name":
            fits = 1 <= len(word) <= 8 and set(word) <= set("abcdefghijklmnopqrstuvwxyz")
            fits = fits and word not in RESERVED and word not in self.names
            self.names.append(word)
            return fits
        if due == "variable":
            return word in self.names
        return word == due

    def number(self, word, least, most):
        return word.isdigit() and str(int(word)) == word and least <= int(word) <= most

    def variables(self, word, left):
        if word != "var" or left == 0:
            return None
        self.stack += [("variables", left - 1), ("number", 1, 12), "name"]
        return True

    def expression(self, word, left):
        if word in OPERATORS:
            self.stack += [("expression", left - 1)] * 2
            return left > 1
        return word in self.names or self.number(word, 0, 65535) or (word == "press" and self.pressed)

    def statements(self, depth):
        """The words that may begin a statement."""
        words = ["if"] * (depth < 4) + ["say"] * self.pressed
        if self.names:
            words += ["set"] + ["draw"] * (self.left["draw"] > 0) + ["use"] * (self.around and self.left["use"] > 0)
        return words

    def block(self, word, depth):
        if word not in self.statements(depth):
            return None
        self.stack.append(("block", depth))
        if word == "if":
            self.stack += [("tail", depth + 1), ("block", depth + 1), ("expression", 5)]
        elif word == "say":
            self.stack.append(("expression", 5))
        else:
            if word != "set":
                self.left[word] -= 1
            self.stack += [("number", 1, 6) if word == "draw" else ("expression", 5), "variable"]
        return True

    def full_block(self, word, depth):
        """A block that is not empty."""
        return self.block(word, depth) or False

    def tail(self, word, depth):
        if word == "else" and self.statements(depth):
            self.stack += ["end", ("full_block", depth)]
            return True
        return word == "end"


def first_wrong(text, around):
    """The index that BadText has for a text, or None if the text writes a box or a surrounding."""
    words = text.split(" ") if text else []
    expected = Expected(around)
    for at, word in enumerate(words):
        if not expected.fits(word):
            return at
    return None if expected.is_complete() else len(words)


def spoiled(items, others):
    """The items with one left out, put in, replaced, exchanged with the next one or doubled, at each place."""
    for at in range(len(items) + 1):
        for other in others:
            yield items[:at] + [other] + items[at:]
    for at in range(len(items)):
        yield items[:at] + items[at + 1:]
        yield items[:at] + [items[at]] + items[at:]
        for other in others:
            yield items[:at] + [other] + items[at + 1:]
        if at + 1 < len(items):
            yield items[:at] + [items[at + 1], items[at]] + items[at + 2:]
