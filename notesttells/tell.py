"""Telling two machines apart by a way, or showing by numbers that no way does."""

from notesttells.both import Both
from notesttells.machine import chance, fit
from notesttells.ratio import Ratio
from notesttells.span import Span
from notesttells.steps import next_numbers
from notesttells.whole import whole


class Found:
    """What is found about two machines: vectors with numbers if they are the same, or a way if not."""

    def __init__(self, kind, vectors, start, moves, way):
        self.kind = kind
        self.vectors = [list(vector) for vector in vectors]
        self.start = list(start)
        self.moves = [list(numbers) for numbers in moves]
        self.way = None if way is None else tuple([tuple(step) for step in way])

    def __eq__(self, other):
        return (
            isinstance(other, Found) and self.kind == other.kind and self.vectors == other.vectors
            and self.start == other.start and self.moves == other.moves and self.way == other.way
        )


class Search:
    """The vectors of two machines that are kept so far, the ways to them, and the numbers of their moves."""

    def __init__(self, both):
        self.both = both
        self.span = Span(both.size)
        self.kept = []
        self.ways = []
        self.moves = []

    def keep(self, vector, way):
        """Keeps a vector to which the way leads, and returns its numbers."""
        numbers = [Ratio(0) for _ in self.kept] + [Ratio(1)]
        self.span.keep(vector.numbers)
        self.kept.append(vector)
        self.ways.append(way)
        return numbers

    def numbers_of(self, vector, way):
        """The numbers of the kept vectors in this one, which is kept itself if there are none."""
        parts = self.span.parts(vector.numbers)
        if parts is None:
            return self.keep(vector, way)
        # The span knows the vectors by their integers alone, so their denominators are still to be put in.
        return [part * Ratio(kept.bottom, vector.bottom) for part, kept in zip(parts, self.kept)]

    def same(self):
        """The Found of machines that no way tells apart, when all ways were gone through."""
        many = len(self.kept)
        start, *moves = [_filled(numbers, many) for numbers in self.moves]
        return Found("same", [vector.ratios() for vector in self.kept], start, moves, None)


def _filled(numbers, many):
    """The numbers with zeros for the vectors that were kept later."""
    return numbers + [Ratio(0)] * (many - len(numbers))


def settle(one, other):
    """The Found of two machines that fit."""
    both = Both(one, other)
    search = Search(both)
    search.moves.append(search.keep(both.start, ()))
    at = 0
    while at < len(search.kept):
        for step, columns in both.steps:
            vector = both.next_whole(search.kept[at], columns)
            way = search.ways[at] + (step,)
            # All earlier ways, those that are left out too, lead to sums of vectors that were even.
            if not both.is_even(vector.numbers):
                return Found("apart", [], [], [], way)
            search.moves.append(search.numbers_of(vector, way))
        at += 1
    return search.same()


def judge(one, other, found):
    """True if what is found holds for these machines."""
    if not fit(one, other):
        return False
    if found.kind == "same":
        return found.way is None and _have_lengths(one, other, found) and _shows(Both(one, other), found)
    if found.kind == "apart":
        return found.vectors == [] and found.start == [] and found.moves == [] and _tells(one, other, found.way)
    return False


def _tells(one, other, way):
    """True if the way has buttons and answers that there are, and tells the machines apart."""
    if way is None or not all([_is_step(one, step) for step in way]):
        return False
    return chance(one, way) != chance(other, way)


def _is_step(machine, step):
    """True for a pair of a button and an answer of the machine."""
    return len(step) == 2 and 0 <= step[0] < machine.buttons() and 0 <= step[1] < machine.answers()


def _have_lengths(one, other, found):
    """True if all lists of what is found have as many items as they should."""
    many = len(found.vectors)
    size = one.states() + other.states()
    return (
        len(found.moves) == many * one.buttons() * one.answers()
        and all([len(vector) == size for vector in found.vectors])
        and all([len(numbers) == many for numbers in [found.start, *found.moves]])
    )


def _shows(both, found):
    """True if the vectors are even and the numbers add up, for lists of the right lengths."""
    flat = whole([part for vector in found.vectors for part in vector])
    vectors = [flat.numbers[at:at + both.size] for at in range(0, len(flat.numbers), both.size)]
    if not all([both.is_even(vector) for vector in vectors]):
        return False
    start = [flat.bottom * number for number in both.start.numbers]
    if not _add_up(vectors, found.start, start, both.start.bottom):
        return False
    goals = [next_numbers(vector, columns) for vector in vectors for _, columns in both.steps]
    return all([_add_up(vectors, numbers, goal, both.bottom) for numbers, goal in zip(found.moves, goals)])


def _add_up(vectors, numbers, goal, bottom):
    """True if the sum of the vectors times the numbers is the goal over the bottom."""
    times = whole(numbers)
    sums = [0] * len(goal)
    for vector, number in zip(vectors, times.numbers):
        if number != 0:
            sums = [part + number * more for part, more in zip(sums, vector)]
    return [part * bottom for part in sums] == [part * times.bottom for part in goal]
