"""Machines of up to 12 states in each of the functions, among them rings that differ in one weight."""

import unittest
from fractions import Fraction
from random import Random

from examples import drawn_machine, fraction, ratios
from notesttells.group import alike, lumped, lumps
from notesttells.machine import chance
from notesttells.make import beside, feeding, mixture
from notesttells.ratio import Ratio
from notesttells.tell import Found, judge, settle
from notesttells.thin import Thinning, thin, thin_holds, thinned
from references import chance_of, coins, made_machine, plain_found, renamed, ring, split


class Rings(unittest.TestCase):
    def rings(self):
        """Two rings of 12 states that differ in the last weight, and chances on the way there of several kinds."""
        for weights in (["1/2"] * 11, ["1/2", "1/3"] * 5 + ["1/2"], [Fraction(at + 1, 2 * at + 3) for at in range(11)]):
            for last, other_last in (("1/2", "1/3"), ("2/3", "3/5"), (1, "999/1000")):
                yield ring(weights + [last]), ring(weights + [other_last])

    def test_told_apart_behind_11_steps(self):
        for one, other in self.rings():
            found = settle(one, other)
            self.assertEqual(found, Found("apart", [], [], [], ((0, 1),) * 11 + ((0, 0),)))
            self.assertNotEqual(chance_of(one, found.way), chance_of(other, found.way))
            for length in range(12):
                way = found.way[:length]
                self.assertEqual(chance_of(one, way), chance_of(other, way))
            self.assertIs(judge(one, other, found), True)
            self.assertIs(judge(one, one, found), False)

    def test_not_told_apart_with_a_single_answer(self):
        one, other = ring(["1/2"] * 12, 1), ring(["1/2"] * 11 + ["1/3"], 1)
        found = settle(one, other)
        self.assertEqual((found.kind, len(found.vectors)), ("same", 23))
        self.assertIs(judge(one, other, found), True)
        found.moves[-1][0] = found.moves[-1][0] + Ratio(1, 2 ** 80)
        self.assertIs(judge(one, other, found), False)
        self.assertEqual(alike(other), [tuple(range(12))])
        self.assertEqual(lumps(other), [tuple(range(12))])
        self.assertEqual(thin(other), Thinning((0,), [(state, ratios("1")) for state in range(1, 12)]))

    def test_a_ring_and_itself(self):
        for one, other in self.rings():
            for machine in (one, other, renamed(one, [(at * 5) % 12 for at in range(12)])):
                found = settle(machine, machine)
                self.assertEqual((found.kind, len(found.vectors)), ("same", 12))
                self.assertIs(judge(machine, machine, found), True)
            self.assertIs(judge(one, other, settle(one, one)), False)

    def test_where_the_ring_begins(self):
        one = ring(["1/2"] * 11 + ["1/3"])
        for shift in range(12):
            turned = renamed(one, [(at + shift) % 12 for at in range(12)])
            self.assertEqual(settle(one, turned).kind, "same")

    def test_groups_and_lumps(self):
        self.assertEqual(alike(ring(["1/2"] * 12)), [tuple(range(12))])
        self.assertEqual(lumped(ring(["1/2"] * 12)).states(), 1)
        single = [(state,) for state in range(12)]
        machine = ring(["1/2"] * 11 + ["1/3"])
        self.assertEqual((alike(machine), lumps(machine), lumped(machine)), (single, single, machine))
        machine = ring(["1/2", "1/3", "1/4"] * 4)
        parts = [(0, 3, 6, 9), (1, 4, 7, 10), (2, 5, 8, 11)]
        self.assertEqual((alike(machine), lumps(machine)), (parts, parts))
        self.assertEqual(lumped(machine), ring(["1/2", "1/3", "1/4"]))

    def test_thinnings(self):
        machine = ring(["1/2"] * 11 + ["1/3"])
        thinning = thin(machine)
        self.assertEqual(settle(machine, thinned(machine, thinning)).kind, "same")
        self.assertIs(thin_holds(machine, thinning), True)
        machine = ring(["1/2", "1/3", "1/4"] * 4)
        thinning = thin(machine)
        self.assertEqual(thinning.kept, (0, 1, 2))
        self.assertIs(thin_holds(machine, thinning), True)
        self.assertIs(thin_holds(ring(["1/2", "1/3", "1/4"] * 3 + ["1/2", "1/3", "1/5"]), thinning), False)
        self.assertEqual(thinned(machine, thinning), ring(["1/2", "1/3", "1/4"]))

    def test_rings_that_are_made_larger(self):
        one, other = ring(["1/2"] * 6), ring(["1/2"] * 5 + ["1/3"])
        lots = ratios("1/2 1/2")
        found = settle(mixture([one, other], lots), mixture([one, one], lots))
        self.assertEqual(found.way, ((0, 1),) * 5 + ((0, 0),))
        toss = ring(["1/2", "1/2"])
        self.assertEqual(settle(beside(one, toss), beside(other, toss)).way, ((0, 2),) * 5 + ((0, 0),))
        turned = made_machine([1], [[[[0]], [[1]]], [[[1]], [[0]]]])
        self.assertEqual(settle(feeding(one, turned), feeding(other, turned)).way, ((0, 0),) * 6)


class Large(unittest.TestCase):
    def test_coins_that_differ_only_behind_23_presses(self):
        one, other = coins(24)
        self.assertEqual((one.states(), other.states()), (12, 12))
        found = settle(one, other)
        self.assertEqual(found.way, ((0, 0),) * 23)
        self.assertIs(judge(one, other, found), True)
        self.assertIs(judge(one, other, Found("apart", [], [], [], ((0, 0),) * 22)), False)
        self.assertEqual(thin(one).kept, tuple(range(12)))
        self.assertEqual(len(alike(one)), 12)

    def test_many_buttons_and_answers(self):
        random = Random(95)
        machine = drawn_machine(random, 11, 4, 4)
        other = renamed(split(machine, 5, Fraction(3, 7)), random.sample(range(12), 12))
        found = settle(machine, other)
        self.assertEqual(found.kind, "same")
        self.assertEqual(len(found.moves), len(found.vectors) * 16)
        self.assertIs(judge(machine, other, found), True)
        self.assertEqual(len(alike(other)), 11)
        self.assertEqual(lumped(other).states(), 11)
        self.assertEqual(len(thin(other).kept), len(thin(machine).kept))

    def test_machines_without_zeros_and_with_a_single_answer(self):
        random = Random(96)

        def machine():
            rows = [[random.randint(1, 9) for _ in range(12)] for _ in range(12)]
            return made_machine([1] + [0] * 11, [[[[Fraction(w, sum(row)) for w in row] for row in rows]]])

        one, other = machine(), machine()
        found = settle(one, other)
        self.assertEqual((found.kind, len(found.vectors)), ("same", 23))
        self.assertIs(judge(one, other, found), True)
        vectors = plain_found(found)[1]
        self.assertEqual(vectors[0], [1] + [0] * 11 + [1] + [0] * 11)
        self.assertEqual(sum(vectors[-1]), 2)

    def test_large_machines_that_are_made(self):
        random = Random(97)
        one, other = drawn_machine(random, 3, 4, 4), drawn_machine(random, 4, 4, 4)
        found = feeding(one, other)
        self.assertEqual((found.states(), found.buttons(), found.answers()), (12, 4, 4))
        self.assertEqual(settle(found, found).kind, "same")
        way = ((3, 3), (2, 1))
        expected = sum(
            chance_of(one, ((3, first), (2, second))) * chance_of(other, ((first, 3), (second, 1)))
            for first in range(4) for second in range(4)
        )
        self.assertEqual(fraction(chance(found, way)), expected)


if __name__ == "__main__":
    unittest.main()
