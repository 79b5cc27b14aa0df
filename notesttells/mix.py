"""Lots with which a list of numbers is the mean of others."""

from notesttells.ratio import Ratio


class Balance:
    """Equations for unknowns that must not be negative, on the way to a solution (the simplex method).

    Each row has the factors of the unknowns and then an amount, which is not negative, all of them times the
    positive scale. `solved` tells for each row which unknown has this amount, when all others are 0; numbers
    behind those of the unknowns stand for a gap of the row. `gaps` is the sum of the rows that have a gap.
    All integers are determinants, so dividing by the last scale leaves no remainder.
    """

    def __init__(self, rows):
        self.rows = list(rows)
        self.many = len(rows[0]) - 1
        self.solved = [self.many + at for at in range(len(rows))]
        self.gaps = [sum(column) for column in zip(*self.rows)]
        self.scale = 1

    def close(self):
        """Makes the gaps as small as can be."""
        entering = self._entering()
        while entering is not None:
            self._pivot(self._leaving(entering), entering)
            entering = self._entering()

    def solution(self):
        """The unknowns, if there are no gaps, or None."""
        if self.gaps[-1] != 0:
            return None
        found = [Ratio(0) for _ in range(self.many)]
        for unknown, row in zip(self.solved, self.rows):
            if unknown < self.many:
                found[unknown] = Ratio(row[-1], self.scale)
        return found

    def _entering(self):
        """The first unknown that makes the gaps smaller, or None."""
        for unknown in range(self.many):
            if self.gaps[unknown] > 0:
                return unknown
        return None

    def _leaving(self, entering):
        """The row whose amount is used up first; of several ones that of the first unknown, lest this go in circles."""
        best = None
        for at, row in enumerate(self.rows):
            if row[entering] > 0 and (best is None or self._is_ahead(at, best, entering)):
                best = at
        return best

    def _is_ahead(self, at, best, entering):
        row, other = self.rows[at], self.rows[best]
        used, other_used = row[-1] * other[entering], other[-1] * row[entering]
        return used < other_used or (used == other_used and self.solved[at] < self.solved[best])

    def _pivot(self, leaving, entering):
        """Solves the row for the unknown and puts it into all others."""
        taken = self.rows[leaving]
        self.rows = [
            row if at == leaving else self._cleared(row, taken, entering) for at, row in enumerate(self.rows)
        ]
        self.gaps = self._cleared(self.gaps, taken, entering)
        self.solved[leaving] = entering
        self.scale = taken[entering]

    def _cleared(self, row, taken, entering):
        """The row on the new scale, without the unknown."""
        scale, times = taken[entering], row[entering]
        return [(scale * number - times * other) // self.scale for number, other in zip(row, taken)]


def mixed(shown, others, state):
    """Lots of the others with which each list has the state's number as their mean, or None.

    No number of the lists may be negative, and one of them must have only ones, so that the lots add up to 1.
    """
    balance = Balance([[view[other] for other in others] + [view[state]] for view in shown])
    balance.close()
    return balance.solution()
