"""Vectors of two machines, as integers."""

from notesttells.steps import leading, next_numbers, weights_of
from notesttells.whole import Whole, whole


class Both:
    """Two machines that fit: the `first` states of a vector are those of the first one, the others follow.

    `start` is the Whole of the vector at the start. `steps` has, for each button and each answer, the pair of
    these and, for each state, the states that lead to it with their weights times `bottom`.
    """

    def __init__(self, one, other):
        self.first = one.states()
        self.size = one.states() + other.states()
        self.start = whole(one.start + other.start)
        self.bottom = whole(weights_of(one) + weights_of(other)).bottom
        self.steps = [
            ((button, answer), self._columns(one.moves[button][answer], other.moves[button][answer]))
            for button in range(one.buttons())
            for answer in range(one.answers())
        ]

    def _columns(self, rows, other_rows):
        return leading(rows, 0, self.bottom) + leading(other_rows, self.first, self.bottom)

    def next_whole(self, vector, columns):
        """The Whole of the vector behind a step."""
        return Whole(next_numbers(vector.numbers, columns), vector.bottom * self.bottom)

    def is_even(self, numbers):
        """True if both machines have the same sum."""
        return sum(numbers[:self.first]) == sum(numbers[self.first:])
