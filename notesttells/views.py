"""What tests tell of the states of a machine."""

from notesttells.span import Span
from notesttells.whole import common_factor, whole


def views(machine):
    """Lists of an integer for each state, of which each is a multiple of the chances of a way from each state.

    The chances of each way are a sum of these lists times numbers. So states are alike, and a state is a mixture
    of others, for all tests exactly if they are so for these lists. The first list has only ones.
    """
    tables = [_whole_rows(rows) for parts in machine.moves for rows in parts]
    span = Span(machine.states())
    kept = [[1] * machine.states()]
    span.keep(kept[0])
    at = 0
    while at < len(kept):
        for rows in tables:
            view = _earlier(rows, kept[at])
            if span.parts(view) is None:
                span.keep(view)
                kept.append(view)
        at += 1
    return kept


def _whole_rows(rows):
    """The rows of weights times their common denominator."""
    numbers = whole([weight for row in rows for weight in row]).numbers
    return [numbers[at:at + len(rows)] for at in range(0, len(numbers), len(rows))]


def _earlier(rows, view):
    """The view of the way that has one more pair, of these rows, ahead of the way of the view."""
    numbers = [sum([weight * number for weight, number in zip(row, view)]) for row in rows]
    # Only the proportions of a view count, and small numbers are quicker; a view of zeros stays as it is.
    common = max(1, common_factor(numbers))
    return [number // common for number in numbers]
