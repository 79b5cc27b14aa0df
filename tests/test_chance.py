"""The chance of a way."""

import unittest
from fractions import Fraction
from random import Random

from examples import all_ways, chance_by_paths, drawn_machine, drawn_machines, even_machine, fraction, ratios, written
from notesttells.machine import Machine, chance
from notesttells.ratio import Ratio, total


def coin():
    """A coin that may be false: in the state 0 it answers by halves, in the state 1 it always answers 1.

    The button 0 tosses it and keeps the state, the button 1 answers 0 and takes the other state.
    """
    toss = [[ratios("1/2 0"), ratios("0 0")], [ratios("1/2 0"), ratios("0 1")]]
    swap = [[ratios("0 1"), ratios("1 0")], [ratios("0 0"), ratios("0 0")]]
    return Machine(ratios("2/3 1/3"), [toss, swap])


class Chances(unittest.TestCase):
    def assert_chance(self, machine, way, expected):
        found = chance(machine, way)
        self.assertIs(type(found), Ratio)
        self.assertEqual((found.num, found.den), (Fraction(expected).numerator, Fraction(expected).denominator))

    def test_the_empty_way(self):
        for machine in [coin(), even_machine(1, 1, 1), even_machine(12, 4, 4)] + drawn_machines(3, 10):
            self.assert_chance(machine, (), 1)
        self.assert_chance(coin(), [], 1)

    def test_one_press(self):
        self.assert_chance(coin(), ((0, 0),), "1/3")
        self.assert_chance(coin(), ((0, 1),), "2/3")
        self.assert_chance(coin(), ((1, 0),), 1)
        self.assert_chance(coin(), ((1, 1),), 0)

    def test_more_presses(self):
        self.assert_chance(coin(), ((0, 1), (0, 1)), "1/2")
        self.assert_chance(coin(), ((0, 0), (0, 1)), "1/6")
        self.assert_chance(coin(), ((0, 1), (0, 1), (0, 1)), "5/12")
        self.assert_chance(coin(), ((1, 0), (0, 0)), "1/6")
        self.assert_chance(coin(), ((0, 0), (1, 0), (0, 1)), "1/3")
        self.assert_chance(coin(), ((0, 0), (1, 0), (0, 0)), 0)

    def test_the_earliest_pair_comes_first(self):
        self.assert_chance(coin(), ((0, 0), (1, 0)), "1/3")
        self.assert_chance(coin(), ((1, 0), (0, 0)), "1/6")

    def test_the_moves_lead_from_the_row_to_the_column(self):
        stay, leave = ratios("0 1"), ratios("0 1")
        machine = Machine(ratios("1 0"), [[[stay, ratios("0 0")], [ratios("0 0"), leave]]])
        self.assert_chance(machine, ((0, 0), (0, 1)), 1)
        self.assert_chance(machine, ((0, 0), (0, 0)), 0)

    def test_lists(self):
        self.assert_chance(coin(), [(0, 0), (0, 1)], "1/6")

    def test_against_the_sum_over_all_ways_through_the_states(self):
        for machine in drawn_machines(4, 25):
            for length in (1, 2):
                for way in all_ways(machine, length):
                    self.assert_chance(machine, way, chance_by_paths(machine, way))

    def test_longer_ways_against_that_sum(self):
        random = Random(6)
        for machine in drawn_machines(7, 12):
            way = tuple(
                (random.randrange(machine.buttons()), random.randrange(machine.answers())) for _ in range(5)
            )
            self.assert_chance(machine, way, chance_by_paths(machine, way))

    def test_a_large_machine(self):
        machine = drawn_machine(Random(8), 12, 4, 4)
        for way in (((3, 3), (0, 1)), ((1, 0), (2, 2))):
            self.assert_chance(machine, way, chance_by_paths(machine, way))

    def test_a_long_way(self):
        half = Machine([Ratio(1)], [[[[Ratio(1, 2)]], [[Ratio(1, 2)]]]])
        self.assert_chance(half, ((0, 1),) * 200, Fraction(1, 2 ** 200))

    def test_all_answers_to_one_more_press_add_up(self):
        for machine in [coin()] + drawn_machines(9, 15):
            for length in (0, 1, 2):
                for way in all_ways(machine, length):
                    for button in range(machine.buttons()):
                        longer = [chance(machine, way + ((button, answer),)) for answer in range(machine.answers())]
                        self.assertEqual(fraction(total(longer)), fraction(chance(machine, way)))

    def test_arguments_stay(self):
        machine, way = coin(), [(0, 1), (1, 0)]
        before = written(machine)
        chance(machine, way)
        self.assertEqual(written(machine), before)
        self.assertEqual(way, [(0, 1), (1, 0)])


if __name__ == "__main__":
    unittest.main()
