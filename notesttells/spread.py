"""What may be the case while a box runs."""

from math import lcm

from notesttells.ratio import Ratio


class Spread:
    """Pairs of the values of the variables and the answer that was said, with a number for each state inside.

    The chance of a pair and of a state of the machine inside is the number over `bottom`. Pairs without any chance
    are left out.
    """

    def __init__(self, bottom):
        self.bottom = bottom
        self.numbers = {}

    def put(self, pair, numbers):
        """Adds numbers, none of which is negative, to those of a pair."""
        if sum(numbers) == 0:
            return
        if pair in self.numbers:
            self.numbers[pair] = [one + other for one, other in zip(self.numbers[pair], numbers)]
        else:
            self.numbers[pair] = numbers

    def part(self, pairs):
        """The Spread of some of the pairs."""
        found = Spread(self.bottom)
        for pair in pairs:
            found.put(pair, self.numbers[pair])
        return found

    def chance_of(self, pair, inner):
        """The chance of a pair and of a state inside."""
        return Ratio(self.numbers[pair][inner], self.bottom) if pair in self.numbers else Ratio(0)

    def states(self):
        """The values with a state inside that have a chance, once for each answer that was said."""
        return [
            (values, inner)
            for (values, _), numbers in self.numbers.items()
            for inner, number in enumerate(numbers)
            if number > 0
        ]


def joined(one, other):
    """The Spread of what may be the case in either one."""
    both = Spread(lcm(one.bottom, other.bottom))
    for spread in (one, other):
        times = both.bottom // spread.bottom
        for pair, numbers in spread.numbers.items():
            both.put(pair, [times * number for number in numbers])
    return both
