"""Taking out states that are mixtures of others."""

from notesttells.machine import Machine
from notesttells.mix import mixed
from notesttells.ratio import Ratio, are_lots, total
from notesttells.views import views


class Thinning:
    """The kept states, and for each other state a pair of it and its lots of the kept states."""

    def __init__(self, kept, lots):
        self.kept = tuple(kept)
        self.lots = [(state, tuple(weights)) for state, weights in lots]

    def __eq__(self, other):
        return isinstance(other, Thinning) and self.kept == other.kept and self.lots == other.lots


def thin(machine):
    """The Thinning of a machine, from the last state to the first one."""
    shown = views(machine)
    kept = list(range(machine.states()))
    for state in reversed(range(machine.states())):
        others = [other for other in kept if other != state]
        if mixed(shown, others, state) is not None:
            kept = others
    lots = [(state, mixed(shown, kept, state)) for state in range(machine.states()) if state not in kept]
    return Thinning(kept, lots)


def thin_holds(machine, thinning):
    """True if the thinning is one of this machine."""
    states = list(range(machine.states()))
    if len(thinning.kept) == 0 or list(thinning.kept) != [state for state in states if state in thinning.kept]:
        return False
    if [state for state, _ in thinning.lots] != [state for state in states if state not in thinning.kept]:
        return False
    shown = views(machine)
    return all([_is_mixture(shown, thinning.kept, state, lots) for state, lots in thinning.lots])


def _is_mixture(shown, kept, state, lots):
    """True if these are lots of the kept states, and the state is their mixture."""
    if len(lots) != len(kept) or not are_lots(lots):
        return False
    means = [total([lot * Ratio(view[other]) for other, lot in zip(kept, lots)]) for view in shown]
    return means == [Ratio(view[state]) for view in shown]


def thinned(machine, thinning):
    """The machine that has only the kept states."""
    moves = [
        [[_shared(rows[state], thinning) for state in thinning.kept] for rows in parts]
        for parts in machine.moves
    ]
    return Machine(_shared(machine.start, thinning), moves)


def _shared(weights, thinning):
    """The weights of the kept states, with those of the other states shared out by their lots."""
    shared = [weights[state] for state in thinning.kept]
    for state, lots in thinning.lots:
        shared = [weight + weights[state] * lot for weight, lot in zip(shared, lots)]
    return shared
