"""Larger machines that are made of smaller ones."""

from notesttells.errors import BadMachine, TooLarge
from notesttells.machine import MOST_ANSWERS, Machine, ask_states, fit
from notesttells.ratio import Ratio, are_lots, total


def mixture(machines, lots):
    """The machine that begins as one of the machines, by the lots."""
    if len(machines) == 0:
        raise BadMachine("states")
    first = machines[0]
    if not all([fit(first, machine) for machine in machines]):
        raise BadMachine("answers")
    if len(lots) != len(machines) or not are_lots(lots):
        raise BadMachine("start")
    ask_states(sum([machine.states() for machine in machines]))
    start = [lot * weight for machine, lot in zip(machines, lots) for weight in machine.start]
    moves = [
        [_blocks([machine.moves[button][answer] for machine in machines]) for answer in range(first.answers())]
        for button in range(first.buttons())
    ]
    return Machine(start, moves)


def feeding(one, other):
    """The machine in which each answer of the first machine presses a button of the second one, which answers."""
    if one.answers() != other.buttons():
        raise BadMachine("buttons")
    ask_states(one.states() * other.states())
    moves = [
        [_fed(parts, [tables[answer] for tables in other.moves]) for answer in range(other.answers())]
        for parts in one.moves
    ]
    return Machine(_products(one.start, other.start), moves)


def beside(one, other):
    """The machine in which each press is a press of both machines, and the answer is made of both answers."""
    if one.buttons() != other.buttons():
        raise BadMachine("buttons")
    ask_states(one.states() * other.states())
    if one.answers() * other.answers() > MOST_ANSWERS:
        raise TooLarge("answers")
    moves = [
        [_crossed(rows, other_rows) for rows in parts for other_rows in other_parts]
        for parts, other_parts in zip(one.moves, other.moves)
    ]
    return Machine(_products(one.start, other.start), moves)


def _blocks(tables):
    """The tables as one table, in which none leads to the states of another one."""
    many = sum([len(rows) for rows in tables])
    made = []
    for rows in tables:
        ahead, behind = len(made), many - len(made) - len(rows)
        made.extend([_zeros(ahead) + list(row) + _zeros(behind) for row in rows])
    return made


def _zeros(many):
    return [Ratio(0) for _ in range(many)]


def _products(weights, other_weights):
    """The weights of the pairs of states, by the first ones and then by the second ones."""
    return [weight * other for weight in weights for other in other_weights]


def _crossed(rows, other_rows):
    """The rows of the pairs of states."""
    return [_products(row, other_row) for row in rows for other_row in other_rows]


def _fed(parts, other_parts):
    """The sum of the rows of the pairs of states over all answers in between."""
    tables = [_crossed(rows, other_rows) for rows, other_rows in zip(parts, other_parts)]
    return [[total(weights) for weights in zip(*same_rows)] for same_rows in zip(*tables)]
