"""Exact fractions."""

from math import gcd

from notesttells.errors import BadRatio

# Python refuses to write a number of more than 4300 digits at once, so longer ones are written in parts.
PART_END = 10 ** 64


def _digits(number):
    """The decimal digits of a number of any length, with `-` ahead of a negative one."""
    if number < 0:
        return f"-{_digits(-number)}"
    rest = number
    text = ""
    while rest >= PART_END:
        rest, part = divmod(rest, PART_END)
        text = f"{part:064d}{text}"
    return f"{rest}{text}"


class Ratio:
    """A fraction in lowest terms with a positive denominator."""

    def __init__(self, num, den=1):
        if den <= 0:
            raise BadRatio("the denominator is not positive")
        common = gcd(num, den)
        self.num = num // common
        self.den = den // common

    def __add__(self, other):
        return Ratio(self.num * other.den + other.num * self.den, self.den * other.den)

    def __sub__(self, other):
        return Ratio(self.num * other.den - other.num * self.den, self.den * other.den)

    def __mul__(self, other):
        return Ratio(self.num * other.num, self.den * other.den)

    def __eq__(self, other):
        return isinstance(other, Ratio) and self.num == other.num and self.den == other.den

    def __str__(self):
        if self.den == 1:
            return f"{_digits(self.num)}"
        return f"{_digits(self.num)}/{_digits(self.den)}"

    def less(self, other):
        """True if this fraction is less than the other one."""
        return self.num * other.den < other.num * self.den

    def by(self, other):
        """The quotient by the other fraction."""
        if other.num == 0:
            raise BadRatio("nothing is divided by 0")
        if other.num < 0:
            # The numerator of the other one becomes a denominator, so its sign goes to the numerator.
            return Ratio(-self.num * other.den, -other.num * self.den)
        return Ratio(self.num * other.den, other.num * self.den)


def total(ratios):
    """The sum of a list of fractions."""
    found = Ratio(0)
    for ratio in ratios:
        found = found + ratio
    return found


def are_lots(ratios):
    """True if the fractions are not negative and add up to 1."""
    return all([ratio.num >= 0 for ratio in ratios]) and total(ratios) == Ratio(1)
