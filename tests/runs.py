"""Running the statements of boxes step by step, with Python's own fractions, and the machines that come of it."""

from fractions import Fraction
from itertools import product

from references import plain

REACHED_TOO_MANY = "more than 12 states"


def value_of(expression, values, press):
    kind, *parts = expression
    if kind == "number":
        return parts[0]
    if kind == "variable":
        return values[parts[0]]
    if kind == "press":
        return press
    one, other = [value_of(part, values, press) for part in parts]
    if kind in ("/", "mod"):
        whole, rest = divmod(one, other) if other else (0, 0)
        return whole if kind == "/" else rest
    return {"+": one + other & 65535, "-": max(one - other, 0), "*": one * other & 65535, "<": int(one < other),
            "=": int(one == other)}[kind]


def numbered(block, sizes):
    """The block whose draws have their number among all draws instead of their size, which is put to the sizes."""
    found = []
    for statement in block:
        if statement[0] == "if":
            statement = (*statement[:2], numbered(statement[2], sizes), numbered(statement[3], sizes))
        elif statement[0] == "draw":
            sizes.append(statement[2])
            statement = ("draw", statement[1], len(sizes) - 1)
        found.append(statement)
    return found


def run(block, sizes, values, drawn, press, said=0):
    """Runs a block of numbered draws, of which all results are known, changes the values, and returns what was said."""
    for word, *rest in block:
        if word == "if":
            asked, chosen, others = rest
            said = run(chosen if value_of(asked, values, press) else others, sizes, values, drawn, press, said)
        elif word == "say":
            said = value_of(rest[0], values, press)
        else:
            result = drawn[rest[1]] if word == "draw" else value_of(rest[1], values, press)
            values[rest[0]] = result % sizes[rest[0]]
    return said


def by_draws(block, box, state, press):
    """The chances of the values and the answer behind a block, by running it for all results of its draws."""
    many = []
    block = numbered(block, many)
    sizes = dict(box.variables)
    found = {}
    for drawn in product(*map(range, many)):
        values = dict(zip(sizes, state))
        said = run(block, sizes, values, drawn, press)
        key = tuple(values.values()), said % box.answers
        found[key] = found.get(key, 0) + Fraction(1)
    total = sum(found.values())
    return {key: chance / total for key, chance in found.items()}


def by_paths(block, box, moves, state, press):
    """The chances of the values, the inner state and the answer behind a block, by all paths of draws and uses."""
    sizes = dict(box.variables)
    paths = [(Fraction(1), dict(zip(sizes, state[0])), state[1], 0)]
    for statement in block:
        paths = [further for path in paths for further in steps(statement, box, sizes, moves, path, press)]
    found = {}
    for chance, values, inner, said in paths:
        key = (tuple(values.values()), inner), said % box.answers
        found[key] = found.get(key, 0) + chance
    return found


def steps(statement, box, sizes, moves, path, press):
    """The paths behind a statement."""
    chance, values, inner, said = path
    word, name, *rest = statement
    if word == "say":
        return [(chance, values, inner, value_of(name, values, press))]
    if word == "if":
        paths = [path]
        for part in rest[0] if value_of(name, values, press) else rest[1]:
            paths = [further for path in paths for further in steps(part, box, sizes, moves, path, press)]
        return paths
    if word == "set":
        results = [(Fraction(1), value_of(rest[0], values, press), inner)]
    elif word == "draw":
        results = [(Fraction(1, rest[0]), drawn, inner) for drawn in range(rest[0])]
    else:
        answers = moves[value_of(rest[0], values, press) % len(moves)]
        results = [
            (weight, answer, there) for answer, rows in enumerate(answers) for there, weight in enumerate(rows[inner])
            if weight
        ]
    return [
        (chance * weight, {**values, name: value % sizes[name]}, there, said) for weight, value, there in results
    ]


def machine_by(start, behind, box):
    """The start and the moves of a machine with these chances of states, and what is behind a press in a state."""
    known, waiting = {}, list(start)
    while waiting:
        state = waiting.pop()
        if state not in known:
            known[state] = [behind(state, press) for press in range(box.buttons)]
            waiting += [there for chances in known[state] for there, _ in chances]
            if len(known) > 12:
                return REACHED_TOO_MANY
    states = sorted(known)
    return [start.get(state, 0) for state in states], [
        [[[known[here][press].get((there, answer), 0) for there in states] for here in states]
         for answer in range(box.answers)]
        for press in range(box.buttons)
    ]


def machine_by_draws(box):
    """The start and the moves of the machine of a box without `use`."""
    start = by_draws(box.start, box, [0] * len(box.variables), 0)
    return machine_by(
        {values: chance for (values, _), chance in start.items()},
        lambda state, press: by_draws(box.block, box, state, press), box,
    )


def placed_by_paths(box, machine):
    """The start and the moves of a machine that is placed in a surrounding."""
    begin, moves = plain(machine)
    start = {}
    for inner, weight in enumerate(begin):
        if weight:
            chances = by_paths(box.start, box, moves, ([0] * len(box.variables), inner), 0)
            for (state, _), chance in chances.items():
                start[state] = start.get(state, 0) + weight * chance
    return machine_by(start, lambda state, press: by_paths(box.block, box, moves, state, press), box)
