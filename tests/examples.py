"""Weights and machines that several tests use, and sums with Python's own fractions to check against."""

from fractions import Fraction
from itertools import product
from random import Random

from notesttells.machine import Machine
from notesttells.ratio import Ratio


def ratio(text):
    """The Ratio of a text like `1/2`, `-3` or `0`."""
    fraction = Fraction(text)
    return Ratio(fraction.numerator, fraction.denominator)


def ratios(text):
    """The list of the Ratios that are written with spaces between them."""
    return [ratio(word) for word in text.split()]


def fraction(value):
    """Python's own fraction of a Ratio."""
    return Fraction(value.num, value.den)


def even_start(states):
    return [Ratio(1, states) for _ in range(states)]


def even_moves(states, buttons, answers):
    """Moves in nested lists that go everywhere with the same chance."""
    return [
        [[[Ratio(1, states * answers) for _ in range(states)] for _ in range(states)] for _ in range(answers)]
        for _ in range(buttons)
    ]


def even_machine(states, buttons, answers):
    return Machine(even_start(states), even_moves(states, buttons, answers))


def lots(random, many):
    """Weights that add up to 1, some of them 0."""
    shares = [random.choice((0, 0, 1, 2, 3, 7)) for _ in range(many)]
    shares[random.randrange(many)] += 1
    return [Ratio(share, sum(shares)) for share in shares]


def drawn_machine(random, states, buttons, answers):
    """A machine with weights from the given source of numbers."""
    moves = []
    for _ in range(buttons):
        parts = [[None] * states for _ in range(answers)]
        for state in range(states):
            weights = lots(random, answers * states)
            for answer in range(answers):
                parts[answer][state] = weights[answer * states:(answer + 1) * states]
        moves.append(parts)
    return Machine(lots(random, states), moves)


def drawn_machines(seed, many):
    """Machines of different sizes, the same ones for the same seed."""
    random = Random(seed)
    return [
        drawn_machine(random, random.randint(1, 4), random.randint(1, 3), random.randint(1, 3))
        for _ in range(many)
    ]


def chance_by_paths(machine, way):
    """The chance of a way as the sum over all ways through the states."""
    found = Fraction(0)
    for path in product(range(machine.states()), repeat=len(way) + 1):
        here = fraction(machine.start[path[0]])
        for at, (button, answer) in enumerate(way):
            here *= fraction(machine.moves[button][answer][path[at]][path[at + 1]])
        found += here
    return found


def all_ways(machine, length):
    pairs = list(product(range(machine.buttons()), range(machine.answers())))
    return list(product(pairs, repeat=length))


def written(machine):
    """The weights of a machine as texts, to compare without `==` of the program."""
    return (
        [str(fraction(weight)) for weight in machine.start],
        [[[[str(fraction(w)) for w in row] for row in rows] for rows in parts] for parts in machine.moves],
    )
