"""Slow and plain ways to the same answers, with Python's own fractions, and machines that need them."""

from fractions import Fraction
from itertools import combinations, product

from examples import fraction
from notesttells.machine import Machine
from notesttells.ratio import Ratio


def made_ratio(value):
    """The Ratio of one of Python's own fractions."""
    return Ratio(value.numerator, value.denominator)


def made_machine(start, moves):
    """The machine of nested lists of Python's own fractions, integers or texts like `1/2`."""
    return Machine(
        [made_ratio(Fraction(weight)) for weight in start],
        [[[[made_ratio(Fraction(w)) for w in row] for row in rows] for rows in parts] for parts in moves],
    )


def plain(machine):
    """The start and the moves of a machine in nested lists of Python's own fractions."""
    return (
        [fraction(weight) for weight in machine.start],
        [[[[fraction(w) for w in row] for row in rows] for rows in parts] for parts in machine.moves],
    )


def plain_found(found):
    """All parts of a Found, with Python's own fractions."""
    return (
        found.kind,
        [[fraction(part) for part in vector] for vector in found.vectors],
        [fraction(number) for number in found.start],
        [[fraction(number) for number in numbers] for numbers in found.moves],
        found.way,
    )


def pairs_of(machine):
    return list(product(range(machine.buttons()), range(machine.answers())))


def ways_in_order(machine, longest):
    """All ways of up to so many pairs, by their lengths and then like tuples."""
    for length in range(longest + 1):
        yield from product(pairs_of(machine), repeat=length)


def moved_on(weights, rows):
    return [sum(weight * row[there] for weight, row in zip(weights, rows) if weight) for there in range(len(rows))]


def weights_behind(machine, way):
    """The weights of the states behind a way."""
    weights, moves = plain(machine)
    for button, answer in way:
        weights = moved_on(weights, moves[button][answer])
    return weights


def chance_of(machine, way):
    return sum(weights_behind(machine, way))


def first_way_apart(one, other):
    """The first way with different chances, of less pairs than both machines have states, or None."""
    for way in ways_in_order(one, one.states() + other.states() - 1):
        if chance_of(one, way) != chance_of(other, way):
            return way
    return None


def solved(vectors, goal):
    """Numbers with which the vectors add up to the goal, or None."""
    rows = [[vector[at] for vector in vectors] + [goal[at]] for at in range(len(goal))]
    pivots = []
    for column in range(len(vectors)):
        place = next((at for at in range(len(pivots), len(rows)) if rows[at][column] != 0), None)
        if place is None:
            continue
        here = len(pivots)
        rows[here], rows[place] = rows[place], rows[here]
        rows[here] = [number / rows[here][column] for number in rows[here]]
        for at, row in enumerate(rows):
            if at != here and row[column] != 0:
                rows[at] = [number - row[column] * taken for number, taken in zip(row, rows[here])]
        pivots.append(column)
    if any(row[-1] != 0 for row in rows[len(pivots):]):
        return None
    numbers = [Fraction(0)] * len(vectors)
    for row, column in zip(rows, pivots):
        numbers[column] = row[-1]
    return numbers


def kept_by_ways(one, other):
    """The vectors that point [9] keeps, by going through the ways in their order."""
    kept, ways = [], {}
    level = [()]
    while level:
        following = []
        for way in level:
            vector = weights_behind(one, way) + weights_behind(other, way)
            if solved(kept, vector) is None:
                kept.append(vector)
                ways[way] = vector
                following += [way + (pair,) for pair in pairs_of(one)]
        level = following
    return kept


def numbers_of(one, other, vectors):
    """The start and the moves with which a list of vectors shows that machines are the same."""
    moves_of_one, moves_of_other = plain(one)[1], plain(other)[1]
    start = solved(vectors, plain(one)[0] + plain(other)[0])
    moves = [
        solved(vectors, (
            moved_on(vector[:one.states()], moves_of_one[button][answer])
            + moved_on(vector[one.states():], moves_of_other[button][answer])
        ))
        for vector in vectors
        for button, answer in pairs_of(one)
    ]
    return start, moves


def found_by_ways(one, other):
    """All parts of the Found of two machines that are the same."""
    kept = kept_by_ways(one, other)
    return ("same", kept, *numbers_of(one, other, kept), None)


def chances_from(machine, state):
    """The chances of all ways of less pairs than there are states, for the machine that begins in the state."""
    moves = plain(machine)[1]
    level = [[Fraction(int(at == state)) for at in range(machine.states())]]
    chances = []
    for _ in range(machine.states()):
        chances += [sum(weights) for weights in level]
        level = [moved_on(weights, moves[button][answer]) for weights in level for button, answer in pairs_of(machine)]
    return chances


def is_mixture(points, goal):
    """True if the goal is a mean of the points; a mean of as few as can be has only one way to be one."""
    for many in range(1, len(points) + 1):
        for some in combinations(points, many):
            numbers = solved([[Fraction(1), *point] for point in some], [Fraction(1), *goal])
            if numbers is not None and all(number >= 0 for number in numbers):
                return True
    return False


def kept_states(machine):
    """The states that are kept by point [15]."""
    some_ways = []
    for chances in zip(*[chances_from(machine, state) for state in range(machine.states())]):
        # What holds for some ways holds for sums of them times numbers.
        if solved(some_ways, chances) is None:
            some_ways.append(chances)
    chances = list(zip(*some_ways))
    kept = list(range(machine.states()))
    for state in reversed(range(machine.states())):
        others = [other for other in kept if other != state]
        if is_mixture([chances[other] for other in others], chances[state]):
            kept = others
    return tuple(kept)


def partitions(many):
    """All ways of putting so many things into sets, as lists of tuples in the order of their first things."""
    if many == 0:
        return [[]]
    found = []
    for smaller in partitions(many - 1):
        found.append(smaller + [(many - 1,)])
        for at, part in enumerate(smaller):
            found.append(smaller[:at] + [part + (many - 1,)] + smaller[at + 1:])
    return found


def is_lumping(machine, sets):
    moves = plain(machine)[1]
    return all(
        sum(rows[state][there] for there in target) == sum(rows[part[0]][there] for there in target)
        for parts in moves for rows in parts for part in sets for state in part for target in sets
    )


# Machines that are made of others.

def renamed(machine, order):
    """The machine whose state at each place is the state that stands there in the order."""
    start, moves = plain(machine)
    return made_machine(
        [start[state] for state in order],
        [[[[rows[here][there] for there in order] for here in order] for rows in parts] for parts in moves],
    )


def split(machine, state, lot):
    """The machine with a copy of the state at the end, which gets the lot of what would go to the state."""
    def shared(weights):
        return [w * (1 - lot) if at == state else w for at, w in enumerate(weights)] + [weights[state] * lot]

    start, moves = plain(machine)
    return made_machine(
        shared(start),
        [[[shared(row) for row in rows + [rows[state]]] for rows in parts] for parts in moves],
    )


def with_unreached(machine):
    """The machine with a state at the end that is never reached, and that tells itself from others at once."""
    start, moves = plain(machine)
    states = machine.states()
    return made_machine(start + [0], [
        [
            [row + [0] for row in rows] + [[0] * states + [int(answer == 0)]]
            for answer, rows in enumerate(parts)
        ]
        for parts in moves
    ])


def with_mixtures(machine, mixtures):
    """The machine with more states at the end, each with the moves of its lots of the ones ahead of it."""
    start, moves = plain(machine)
    for mixture in mixtures:
        mixture = [Fraction(lot) for lot in mixture]
        start = start + [Fraction(0)]
        moves = [
            [[row + [Fraction(0)] for row in rows + [moved_on(mixture, rows)]] for rows in parts] for parts in moves
        ]
    return made_machine(start, moves)


def coins(many):
    """Two machines of one button and two answers with so many states together, first apart at the last way that can be.

    They draw one of several coins and toss it again and again. The chances of the coins are those at odd and at
    even places of a row, and the lots are such that the means of all powers of them are the same, but for the last.
    """
    points = [Fraction(at + 1, many + 1) for at in range(many)]
    weights = []
    for point in points:
        weight = Fraction(1)
        for other in points:
            weight /= 1 if other == point else abs(point - other)
        weights.append(weight)
    return coin_of(points[::2], weights[::2]), coin_of(points[1::2], weights[1::2])


def coin_of(points, weights):
    return made_machine(
        [Fraction(weight) / sum(weights) for weight in weights],
        [[diagonal(points), diagonal([1 - point for point in points])]],
    )


def diagonal(weights):
    return [[weight if at == place else 0 for at in range(len(weights))] for place, weight in enumerate(weights)]


def ring(going_on, answers=2):
    """A ring of states: by its chance a state gives the last answer and goes on, otherwise the first and stays.

    With one answer nobody sees whether it goes on.
    """
    going_on = [Fraction(weight) for weight in going_on]
    many = len(going_on)
    staying = diagonal([1 - weight for weight in going_on])
    leaving = [
        [weight if there == (here + 1) % many else 0 for there in range(many)] for here, weight in enumerate(going_on)
    ]
    if answers == 1:
        tables = [[[one + other for one, other in zip(*rows)] for rows in zip(staying, leaving)]]
    else:
        nothing = [[0] * many for _ in range(many)]
        tables = [staying] + [nothing] * (answers - 2) + [leaving]
    return made_machine([1] + [0] * (many - 1), [tables])


def with_mixtures_used(machine, mixtures):
    """As with_mixtures, but half of what can be goes to these states instead of to those of their lots."""
    made = with_mixtures(machine, mixtures)
    for at, mixture in enumerate(mixtures):
        made = sent(made, machine.states() + at, [Fraction(lot) for lot in mixture])
    return made


def sent(machine, state, mixture):
    """The machine in which half of what can be of the weights of a mixture goes to its state instead."""
    def sent_weights(weights):
        part = min(weights[at] / lot for at, lot in enumerate(mixture) if lot > 0) / 2
        weights = [
            weight - part * (mixture[at] if at < len(mixture) else 0) for at, weight in enumerate(weights)
        ]
        weights[state] += part
        return weights

    start, moves = plain(machine)
    return made_machine(
        sent_weights(start), [[[sent_weights(row) for row in rows] for rows in parts] for parts in moves]
    )
