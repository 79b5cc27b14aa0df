"""Which vectors are sums of other ones times numbers."""

from notesttells.ratio import Ratio
from notesttells.whole import common_factor


class Span:
    """Kept vectors of integers, none of which is a sum of the other ones times numbers.

    For each kept vector there is a row, which is a sum of kept vectors times integers: first what the sum is,
    then those integers. At the pivot of a row this row has the scale, which is positive, and all others have 0.
    """

    def __init__(self, size):
        self.size = size
        self.rows = []
        self.pivots = []
        self.scale = 1

    def _rest(self, vector):
        """The scale times the vector less what the rows have of it, then the numbers of kept ones in that."""
        rest = [self.scale * number for number in vector] + [0] * self.size
        for row, pivot in zip(self.rows, self.pivots):
            times = vector[pivot]
            if times != 0:
                rest = [number - times * taken for number, taken in zip(rest, row)]
        return rest

    def parts(self, vector):
        """The numbers with which the kept ones add up to the vector, or None if there are none."""
        rest = self._rest(vector)
        if any([number != 0 for number in rest[:self.size]]):
            return None
        return [Ratio(-number, self.scale) for number in rest[self.size:self.size + len(self.rows)]]

    def keep(self, vector):
        """Keeps a vector that is not a sum of the kept ones times numbers."""
        added = self._rest(vector)
        added[self.size + len(self.rows)] = self.scale
        pivot = 0
        while added[pivot] == 0:
            pivot += 1
        common = common_factor(added) if added[pivot] > 0 else -common_factor(added)
        added = [number // common for number in added]
        self._put_in(added, pivot)

    def _put_in(self, added, pivot):
        """Makes a row of the added one, and clears its pivot in the others."""
        top = added[pivot]
        rows = [[top * number - row[pivot] * taken for number, taken in zip(row, added)] for row in self.rows]
        rows.append([self.scale * number for number in added])
        scale = top * self.scale
        # Without this the numbers would grow far beyond what they tell.
        common = common_factor([scale] + [number for row in rows for number in row])
        self.rows = [[number // common for number in row] for row in rows]
        self.pivots.append(pivot)
        self.scale = scale // common
