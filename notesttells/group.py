"""States that no test tells apart, and states that may be lumped."""

from notesttells.machine import Machine
from notesttells.ratio import total
from notesttells.views import views


def alike(machine):
    """The groups of alike states."""
    shown = views(machine)
    return _together([tuple([view[state] for view in shown]) for state in range(machine.states())])


def lumps(machine):
    """The sets of the lumping with the fewest sets."""
    coarse = []
    fine = [tuple(range(machine.states()))]
    # States that some lumping puts together are never parted here, so no lumping has fewer sets.
    while len(fine) > len(coarse):
        coarse = fine
        fine = _parted(machine, coarse)
    return fine


def lumped(machine):
    """The machine whose states are the sets of the lumping with the fewest sets."""
    lumping = lumps(machine)
    moves = [
        [[_sums(rows[lump[0]], lumping) for lump in lumping] for rows in parts]
        for parts in machine.moves
    ]
    return Machine(_sums(machine.start, lumping), moves)


def _together(keys):
    """The groups of the places of equal keys, in the order of their first places."""
    groups = {}
    for at, key in enumerate(keys):
        groups.setdefault(key, []).append(at)
    return [tuple(group) for group in groups.values()]


def _parted(machine, lumping):
    """The sets, parted into those whose states have the same sums of moves to each of the sets."""
    places = {state: at for at, lump in enumerate(lumping) for state in lump}
    return _together([
        (places[state], *_sums_to(machine, state, lumping)) for state in range(machine.states())
    ])


def _sums_to(machine, state, lumping):
    """The sums of the weights from the state to each set, for each button and answer, as integers to compare."""
    sums = [weight for parts in machine.moves for rows in parts for weight in _sums(rows[state], lumping)]
    return [number for weight in sums for number in (weight.num, weight.den)]


def _sums(weights, lumping):
    """The sum of the weights of each set."""
    return [total([weights[state] for state in lump]) for lump in lumping]
