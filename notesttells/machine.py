"""Machines that draw their answers and their next states by lots."""

from notesttells.errors import BadMachine, TooLarge
from notesttells.ratio import Ratio, are_lots, total

MOST_STATES = 12
MOST_BUTTONS = 4
MOST_ANSWERS = 4


class Machine:
    """A machine: moves[B][A][I][J] leads from the state I to J, with the button B and the answer A."""

    def __init__(self, start, moves):
        self.start = tuple(start)
        self.moves = tuple([tuple([_table(rows) for rows in parts]) for parts in moves])
        why = _fault(self.start, self.moves)
        if why is not None:
            raise BadMachine(why)

    def __eq__(self, other):
        return isinstance(other, Machine) and self.start == other.start and self.moves == other.moves

    def states(self):
        """How many states the machine has."""
        return len(self.start)

    def buttons(self):
        """How many buttons the machine has."""
        return len(self.moves)

    def answers(self):
        """How many answers the machine has."""
        return len(self.moves[0])


def _table(rows):
    """The rows as a tuple of tuples."""
    return tuple([tuple(row) for row in rows])


def _fault(start, moves):
    """The first reason why these weights make no machine, or None. Each check relies on the earlier ones."""
    if _out_of(len(start), MOST_STATES):
        return "states"
    if _out_of(len(moves), MOST_BUTTONS):
        return "buttons"
    if _out_of(len(moves[0]), MOST_ANSWERS) or any([len(parts) != len(moves[0]) for parts in moves]):
        return "answers"
    if not all([_is_square(rows, len(start)) for parts in moves for rows in parts]):
        return "rows"
    if not are_lots(start):
        return "start"
    if not all([_leads_on(parts, state) for parts in moves for state in range(len(start))]):
        return "moves"
    return None


def _out_of(many, most):
    """True if there are none or too many."""
    return many < 1 or many > most


def _is_square(rows, states):
    """True if there is a row for each state, and a weight for each state in each row."""
    return len(rows) == states and all([len(row) == states for row in rows])


def _leads_on(parts, state):
    """True if one button's weights from a state, over all answers and states, are lots."""
    return are_lots([weight for rows in parts for weight in rows[state]])


def ask_states(many):
    """Raises TooLarge for more states than a machine may have."""
    if many > MOST_STATES:
        raise TooLarge("states")


def moved(weights, rows):
    """The weights of the states behind a move: the weights ahead of it times the rows of its weights."""
    return [
        total([weight * row[state] for weight, row in zip(weights, rows)])
        for state in range(len(weights))
    ]


def chance(machine, way):
    """The chance that the machine gives the answers of the way to its presses."""
    weights = machine.start
    for button, answer in way:
        weights = moved(weights, machine.moves[button][answer])
    return total(weights)


def fit(one, other):
    """True if the machines have as many buttons and as many answers."""
    return one.buttons() == other.buttons() and one.answers() == other.answers()


def begun(machine, state):
    """The machine with the same moves that begins in the state for sure."""
    start = [Ratio(1) if at == state else Ratio(0) for at in range(machine.states())]
    return Machine(start, machine.moves)
