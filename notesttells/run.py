"""How boxes run, alone or with a machine inside, and the machines that they make."""

from notesttells.box import Box
from notesttells.machine import Machine, ask_states
from notesttells.ratio import Ratio
from notesttells.reckon import value_of
from notesttells.spread import Spread, joined
from notesttells.steps import leading, next_numbers, weights_of
from notesttells.whole import whole


class Setting:
    """A box with a machine inside. Their states are pairs of the values of the variables and a state inside."""

    def __init__(self, box, machine):
        self.box = box
        self.begin = whole(machine.start)
        self.inside = whole(weights_of(machine)).bottom
        self.columns = [[leading(rows, 0, self.inside) for rows in parts] for parts in machine.moves]
        self.places = {name: (at, size) for at, (name, size) in enumerate(box.variables)}

    def behind_start(self):
        """The Spread behind the statements at the start."""
        spread = Spread(self.begin.bottom)
        spread.put((tuple([0] * len(self.places)), 0), self.begin.numbers)
        return self._run(self.box.start, spread, 0)

    def behind_press(self, state, button):
        """The Spread behind a press in a state."""
        values, inner = state
        spread = Spread(1)
        spread.put((values, 0), [1 if at == inner else 0 for at in range(len(self.begin.numbers))])
        return self._run(self.box.block, spread, button)

    def _run(self, block, spread, press):
        """The Spread behind the statements of a block."""
        for statement in block:
            if statement[0] == "if":
                spread = self._parted(statement, spread, press)
            else:
                spread = self._stepped(statement, spread, press)
        return spread

    def _value(self, expression, pair, press):
        """The value of an expression with the values of a pair."""
        known = {name: value for name, value in zip(self.places, pair[0])}
        # No variable has this name.
        known["press"] = press
        return value_of(expression, known)

    def _parted(self, statement, spread, press):
        """The Spread behind an `if`."""
        _, asked, chosen, others = statement
        values = {pair: self._value(asked, pair, press) for pair in spread.numbers}
        yes = spread.part([pair for pair, value in values.items() if value != 0])
        no = spread.part([pair for pair, value in values.items() if value == 0])
        return joined(self._run(chosen, yes, press), self._run(others, no, press))

    def _stepped(self, statement, spread, press):
        """The Spread behind a statement that is no `if`."""
        found = Spread(spread.bottom * self._bottom(statement))
        for pair, numbers in spread.numbers.items():
            for next_pair, shares in self._outcomes(statement, pair, numbers, press):
                found.put(next_pair, shares)
        return found

    def _bottom(self, statement):
        """The number by which the outcomes of a statement are too large."""
        if statement[0] == "draw":
            return statement[2]
        return self.inside if statement[0] == "use" else 1

    def _outcomes(self, statement, pair, numbers, press):
        """What a statement makes of a pair with its numbers: such pairs, perhaps some of them several times."""
        word = statement[0]
        if word == "draw":
            return [(self._stored(pair, statement[1], drawn), numbers) for drawn in range(statement[2])]
        if word == "say":
            return [((pair[0], self._value(statement[1], pair, press) % self.box.answers), numbers)]
        value = self._value(statement[2], pair, press)
        if word == "set":
            return [(self._stored(pair, statement[1], value), numbers)]
        return [
            (self._stored(pair, statement[1], answer), next_numbers(numbers, columns))
            for answer, columns in enumerate(self.columns[value % len(self.columns)])
        ]

    def _stored(self, pair, name, value):
        """The pair with a value in a variable."""
        values, said = pair
        place, size = self.places[name]
        return values[:place] + (value % size,) + values[place + 1:], said


def _behind_presses(setting, start, buttons):
    """For each state that may be reached the Spreads behind a press of each button."""
    reached = {}
    _reach(reached, start)
    behind = {}
    while len(behind) < len(reached):
        for state in list(reached):
            if state not in behind:
                behind[state] = [setting.behind_press(state, button) for button in range(buttons)]
                for spread in behind[state]:
                    _reach(reached, spread)
    return behind


def _reach(reached, spread):
    """Puts the states of a Spread to those that were reached so far."""
    for state in spread.states():
        reached[state] = True
    ask_states(len(reached))


def _chances(spread, answer, states):
    """The chances of an answer together with each of the states."""
    return [spread.chance_of((values, answer), inner) for values, inner in states]


def placed(box, machine):
    """The machine that a machine makes, placed in a surrounding."""
    setting = Setting(box, machine)
    start = setting.behind_start()
    behind = _behind_presses(setting, start, box.buttons)
    states = sorted(list(behind))
    moves = [
        [[_chances(behind[state][button], answer, states) for state in states] for answer in range(box.answers)]
        for button in range(box.buttons)
    ]
    return Machine(_chances(start, 0, states), moves)


def machine_of(box):
    """The machine that a box without `use` makes."""
    sure = Ratio(1)
    # What stands inside is never pressed, and its one state leaves the order of the values as it is.
    return placed(box, Machine([sure], [[[[sure]]]]))


def telling(way):
    """The surrounding in which the chance of the answer 1 at the first press is that of the way."""
    last, so_far = ("variable", "x"), ("variable", "y")
    block = [("set", "y", ("number", 1))]
    for button, answer in way:
        block.append(("use", "x", ("number", button)))
        block.append(("set", "y", ("*", so_far, ("=", last, ("number", answer)))))
    block.extend([("say", so_far), ("set", "x", ("number", 0)), ("set", "y", ("number", 0))])
    return Box(1, 2, [("x", 4), ("y", 2)], [], block)
