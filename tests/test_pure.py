"""No function changes its arguments, nor what another call answers, over the whole program."""

import unittest
from fractions import Fraction
from random import Random

from examples import drawn_machine, even_machine, ratios
from notesttells.best import best_test, plan_chance
from notesttells.box import Box, box_text, read_around, read_box
from notesttells.errors import TestError
from notesttells.group import alike, lumped, lumps
from notesttells.machine import Machine, begun, chance, fit
from notesttells.make import beside, feeding, mixture
from notesttells.paper import paper_lines, read_paper, read_thin, thin_lines
from notesttells.ratio import Ratio
from notesttells.run import machine_of, placed, telling
from notesttells.tell import Found, judge, settle
from notesttells.thin import Thinning, thin, thin_holds, thinned
from references import renamed, split, with_mixtures_used
from texts import AROUND, BOX


def shown(value):
    """All that a value holds, with its kinds."""
    if isinstance(value, (list, tuple)):
        return type(value).__name__, [shown(part) for part in value]
    if hasattr(value, "__dict__"):
        return type(value).__name__, {name: shown(part) for name, part in vars(value).items()}
    return type(value).__name__, value


def answer(function, arguments):
    """What a call returns or raises."""
    try:
        return shown(function(*arguments))
    except TestError as error:
        return type(error).__name__, vars(error)


def calls():
    """Functions with arguments, some of which are in lists; several calls share their arguments."""
    random = Random(91)
    one, other = drawn_machine(random, 2, 2, 2), drawn_machine(random, 3, 2, 2)
    same, mixed = split(one, 0, Fraction(1, 3)), with_mixtures_used(one, [["1/3", "2/3"]])
    way, box, around = ((0, 1), (1, 0)), read_box(BOX), read_around(AROUND)
    found, apart, thinning = settle(one, same), settle(one, other), thin(mixed)
    data = [["if", ["press"], [["say", ["number", 1]]], []], ["draw", "x", 3]]
    lines, apart_lines, thin_paper = paper_lines(found), paper_lines(apart), thin_lines(thinning)
    lots, machines, plan = ratios("1/2 1/2"), [one, same], best_test(one, other, 2)[1]
    moves = [[[[Ratio(1, 2), Ratio(0)], [Ratio(0), Ratio(1)]], [[Ratio(1, 4), Ratio(1, 4)], [Ratio(0), Ratio(0)]]]]
    return [
        (Machine, (lots, moves)), (Machine, (moves[0][0][0], moves)), (chance, (one, way)), (fit, (one, other)),
        (begun, (other, 2)), (Found, ("same", [lots], lots, [lots, lots], None)), (settle, (one, other)),
        (settle, (one, same)), (judge, (one, same, found)), (judge, (one, other, found)), (judge, (one, other, apart)),
        (alike, (same,)), (lumps, (same,)), (lumped, (mixed,)), (Thinning, ([0, 1], [(2, lots)])), (thin, (mixed,)),
        (thin_holds, (mixed, thinning)), (thinned, (mixed, thinning)), (mixture, (machines, lots)),
        (mixture, ([one, even_machine(1, 1, 1)], lots)), (feeding, (one, other)), (beside, (one, other)),
        (best_test, (one, other, 3)), (best_test, (one, same, 2)), (best_test, (one, other, 7)),
        (plan_chance, (one, other, plan)), (plan_chance, (other, one, plan)), (Box, (1, 2, [["x", 2]], [], data)),
        (read_box, (BOX,)), (read_around, (AROUND,)), (read_box, (AROUND,)), (read_around, (BOX,)), (read_box, ("",)),
        (box_text, (box,)), (box_text, (around,)), (machine_of, (box,)), (machine_of, (Box(1, 2, [["x", 2]], [], data),)),
        (placed, (around, one)), (placed, (around, other)), (placed, (box, other)), (telling, (way,)),
        (placed, (telling(way), one)), (paper_lines, (found,)), (paper_lines, (apart,)), (read_paper, (one, same, lines)),
        (read_paper, (one, other, lines)), (read_paper, (one, other, apart_lines)), (read_paper, (one, other, [])),
        (thin_lines, (thinning,)), (read_thin, (mixed, thin_paper)), (read_thin, (one, thin_paper)),
        (settled_with_lumped, (one,)),
    ]


def settled_with_lumped(machine):
    """A call of several functions in one another."""
    return settle(machine, lumped(renamed(machine, (1, 0))))


class Pure(unittest.TestCase):
    def test_arguments_stay_as_they_were(self):
        for function, arguments in calls():
            with self.subTest(function=function.__name__):
                before = shown(arguments)
                first = answer(function, arguments)
                self.assertEqual(shown(arguments), before)
                self.assertEqual(answer(function, arguments), first)

    def test_other_calls_in_between(self):
        made = calls()
        first = [answer(function, arguments) for function, arguments in made]
        order = list(range(len(made)))
        for seed in range(3):
            Random(seed).shuffle(order)
            again = {at: answer(*made[at]) for at in order}
            for at, (function, arguments) in enumerate(made):
                self.assertEqual(again[at], first[at], function.__name__)

    def test_new_calls_answer_the_same(self):
        self.assertEqual([answer(*call) for call in calls()], [answer(*call) for call in calls()])

    def test_changing_what_was_returned_changes_no_other_answer(self):
        made = calls()
        for function, arguments in made:
            first = answer(function, arguments)
            try:
                found = function(*arguments)
            except TestError:
                continue
            for value in [found, *vars(found).values()] if hasattr(found, "__dict__") else [found]:
                if isinstance(value, list):
                    for part in value:
                        if isinstance(part, list):
                            part.clear()
                    value.append("changed")
            self.assertEqual(answer(function, arguments), first, function.__name__)

    def test_lists_as_tuples(self):
        def with_tuples(value):
            return tuple(with_tuples(part) for part in value) if isinstance(value, (list, tuple)) else value

        for function, arguments in calls():
            self.assertEqual(answer(function, with_tuples(arguments)), answer(function, arguments), function.__name__)


if __name__ == "__main__":
    unittest.main()
