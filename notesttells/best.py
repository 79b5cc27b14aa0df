"""The best test of a length, for somebody who is given one of two machines and says which one it is."""

from notesttells.both import Both
from notesttells.errors import TooLarge
from notesttells.ratio import Ratio, total
from notesttells.steps import next_numbers

MOST_TESTS = 5000


class Trial:
    """Two machines that fit, and what may come of presses.

    A list of numbers has one for each state, those of the first machine first: its chance behind the presses and
    answers so far, if its machine was given, times the bottom of the start and, for each press, of the moves.
    """

    def __init__(self, one, other):
        self.both = Both(one, other)
        steps = [(columns, _leaving(columns)) for _, columns in self.both.steps]
        many = one.answers()
        self.presses = [steps[at:at + many] for at in range(0, len(steps), many)]

    def behind(self, numbers, step, is_last):
        """The numbers behind a step. Behind the last one only their sums count, so quicker ones of these sums do."""
        columns, leaving = step
        if is_last:
            return [number * weight for number, weight in zip(numbers, leaving)]
        return next_numbers(numbers, columns)

    def likelihood(self, numbers, said):
        """The sum of the numbers of the machine that is said."""
        first = self.both.first
        return sum(numbers[:first]) if said == 1 else sum(numbers[first:])

    def best(self, numbers, length):
        """The sum of the likelihoods with the best plan of so many presses, and this plan."""
        if length <= 0:
            one, other = self.likelihood(numbers, 1), self.likelihood(numbers, 2)
            return (one, ("say", 1)) if one >= other else (other, ("say", 2))
        most, plan = None, None
        for button, steps in enumerate(self.presses):
            found = [self.best(self.behind(numbers, step, length == 1), length - 1) for step in steps]
            likely = sum([worth for worth, _ in found])
            if most is None or likely > most:
                most, plan = likely, ("press", button, tuple([part for _, part in found]))
        return most, plan

    def right(self, numbers, plan):
        """The sum of the likelihoods with a plan, over the bottom for each of its presses."""
        if plan[0] == "say":
            return Ratio(self.likelihood(numbers, plan[1]))
        _, button, parts = plan
        found = [
            self.right(self.behind(numbers, step, part[0] == "say"), part)
            for step, part in zip(self.presses[button], parts)
        ]
        return total(found) * Ratio(1, self.both.bottom)


def _leaving(columns):
    """For each state the sum of the weights from it to all states."""
    sums = [0] * len(columns)
    for column in columns:
        for here, weight in column:
            sums[here] += weight
    return sums


def best_test(one, other, length):
    """The best chance to be right behind so many presses, and the best plan for it."""
    _ask_test(one.buttons() * one.answers(), length)
    trial = Trial(one, other)
    likely, plan = trial.best(trial.both.start.numbers, length)
    bottom = 2 * trial.both.start.bottom
    for _ in range(length):
        bottom = bottom * trial.both.bottom
    return Ratio(likely, bottom), plan


def plan_chance(one, other, plan):
    """The chance to be right with a plan."""
    trial = Trial(one, other)
    start = trial.both.start
    return trial.right(start.numbers, plan) * Ratio(1, 2 * start.bottom)


def _ask_test(many, length):
    """Raises TooLarge if so many pairs, for each of the presses, are more sequences than are gone through."""
    ways = 1
    for _ in range(length):
        ways = ways * many
        if ways > MOST_TESTS:
            raise TooLarge("test")
