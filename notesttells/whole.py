"""Fractions as integers over one denominator, which are added up more quickly than one by one."""

from math import gcd, lcm

from notesttells.ratio import Ratio


class Whole:
    """Several fractions: the integers `numbers`, each over the positive `bottom`, in lowest terms together."""

    def __init__(self, numbers, bottom):
        common = gcd(bottom, common_factor(numbers))
        self.numbers = [number // common for number in numbers]
        self.bottom = bottom // common

    def ratios(self):
        """The list of the fractions."""
        return [Ratio(number, self.bottom) for number in self.numbers]


def common_factor(numbers):
    """The greatest common divisor of integers; 0 if all of them are 0."""
    common = 0
    for number in numbers:
        common = gcd(common, number)
        if common == 1:
            return 1
    return common


def whole(ratios):
    """The Whole of a list of fractions."""
    bottom = 1
    for ratio in ratios:
        bottom = lcm(bottom, ratio.den)
    return Whole([ratio.num * (bottom // ratio.den) for ratio in ratios], bottom)
