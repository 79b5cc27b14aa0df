"""The errors that the program raises."""


class TestError(ValueError):
    """The base class of all errors that the program raises."""


class BadText(TestError):
    """A text writes no box; `at` is the index of the first word that is wrong."""

    def __init__(self, at):
        self.at = at


class BadPaper(TestError):
    """Lines write no paper; `at` is the index of the first line that is wrong."""

    def __init__(self, at):
        self.at = at


class BadMachine(TestError):
    """Weights, lots or machines make no machine; `what` tells what is wrong."""

    def __init__(self, what):
        self.what = what


class TooLarge(TestError):
    """What was asked for is beyond a limit; `what` tells which one."""

    def __init__(self, what):
        self.what = what


class BadRatio(TestError):
    """A denominator is not positive, or something is divided by 0."""
