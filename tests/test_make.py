"""Machines that are made of others: mixtures, feeding and side by side."""

import unittest
from fractions import Fraction
from itertools import product
from random import Random

from examples import all_ways, drawn_machine, even_machine, fraction, ratios, written
from notesttells.errors import BadMachine, TestError, TooLarge
from notesttells.machine import Machine, begun, chance
from notesttells.make import beside, feeding, mixture
from notesttells.ratio import Ratio
from notesttells.tell import settle
from references import (
    chance_of, coins, made_machine, pairs_of, plain, renamed, ring, split, with_mixtures_used, with_unreached,
)


def drawn(seed, *sizes):
    """A machine for each of the sizes."""
    random = Random(seed)
    return [drawn_machine(random, *size) for size in sizes]


def others_that_are_the_same(machine):
    """Machines with other weights that are the same for all tests."""
    states = machine.states()
    return [
        split(machine, 0, Fraction(1, 3)), renamed(machine, range(states - 1, -1, -1)), with_unreached(machine),
        with_mixtures_used(machine, [[Fraction(1, states)] * states]),
    ]


class Checks(unittest.TestCase):
    def assert_due(self, kind, what, make, *arguments):
        with self.assertRaises(TestError) as caught:
            make(*arguments)
        self.assertIs(type(caught.exception), kind)
        self.assertEqual(caught.exception.what, what)

    def assert_weights(self, machine, start, moves):
        self.assertIs(type(machine), Machine)
        self.assertEqual(plain(machine), plain(made_machine(start, moves)))


class Mixtures(Checks):
    def test_by_hand(self):
        one = made_machine(["1/4", "3/4"], [[[["1/2", 0], [0, 1]], [[0, "1/2"], [0, 0]]]])
        other = made_machine([1], [[[["1/3"]], [["2/3"]]]])
        self.assert_weights(
            mixture([one, other], ratios("1/3 2/3")), ["1/12", "1/4", "2/3"], [[
                [["1/2", 0, 0], [0, 1, 0], [0, 0, "1/3"]], [[0, "1/2", 0], [0, 0, 0], [0, 0, "2/3"]],
            ]],
        )
        self.assert_weights(
            mixture([other, one], ratios("1/3 2/3")), ["1/3", "1/6", "1/2"], [[
                [["1/3", 0, 0], [0, "1/2", 0], [0, 0, 1]], [["2/3", 0, 0], [0, 0, "1/2"], [0, 0, 0]],
            ]],
        )

    def test_the_order_of_buttons_and_answers(self):
        machines = drawn(71, (2, 3, 2), (1, 3, 2), (3, 3, 2))
        found = mixture(machines, ratios("1/2 1/3 1/6"))
        self.assertEqual((found.states(), found.buttons(), found.answers()), (6, 3, 2))
        lots = [Fraction(1, 2), Fraction(1, 3), Fraction(1, 6)]
        places = [(at, state) for at, machine in enumerate(machines) for state in range(machine.states())]
        start = [lots[at] * plain(machines[at])[0][state] for at, state in places]
        moves = [
            [
                [
                    [
                        plain(machines[at])[1][button][answer][here][there] if at == other else 0
                        for other, there in places
                    ]
                    for at, here in places
                ]
                for answer in range(2)
            ]
            for button in range(3)
        ]
        self.assert_weights(found, start, moves)

    def test_the_chance_is_the_mean(self):
        machines = drawn(72, (2, 2, 2), (3, 2, 2), (1, 2, 2), (2, 2, 2))
        for text in ("1/2 1/3 1/6 0", "0 0 1 0", "1/4 1/4 1/4 1/4", "1/7 2/7 3/7 1/7"):
            found = mixture(machines, ratios(text))
            for length in range(4):
                for way in all_ways(found, length):
                    mean = sum(Fraction(lot) * chance_of(machine, way) for lot, machine in zip(text.split(), machines))
                    self.assertEqual(fraction(chance(found, way)), mean)

    def test_of_one_machine(self):
        machine = drawn(73, (3, 2, 2))[0]
        found = mixture([machine], [Ratio(1)])
        self.assertEqual(found, machine)
        self.assertIsNot(found, machine)

    def test_a_machine_twice(self):
        machine = drawn(74, (2, 2, 3))[0]
        self.assertEqual(settle(mixture([machine, machine], ratios("1/3 2/3")), machine).kind, "same")

    def test_tuples(self):
        machines, lots = drawn(75, (2, 1, 2), (1, 1, 2)), ratios("2/3 1/3")
        self.assertEqual(mixture(tuple(machines), tuple(lots)), mixture(machines, lots))
        self.assertEqual(mixture(machines=tuple(machines), lots=lots), mixture(machines, lots))

    def test_no_machines(self):
        for lots in ([], ratios("1"), ratios("-1")):
            self.assert_due(BadMachine, "states", mixture, [], lots)
            self.assert_due(BadMachine, "states", mixture, (), tuple(lots))

    def test_machines_that_do_not_fit(self):
        for sizes in (
            [(1, 1, 2), (1, 2, 2)], [(1, 2, 1), (1, 2, 2)], [(1, 2, 3), (1, 3, 2)], [(2, 2, 2), (1, 2, 2), (1, 2, 1)],
            [(1, 1, 1), (1, 2, 1), (1, 1, 1)], [(2, 3, 3), (2, 3, 3), (2, 4, 3)],
        ):
            machines = [even_machine(*size) for size in sizes]
            lots = [Ratio(1, len(machines))] * len(machines)
            self.assert_due(BadMachine, "answers", mixture, machines, lots)
            self.assert_due(BadMachine, "answers", mixture, machines[::-1], lots)

    def test_lots_that_are_none(self):
        machines = [even_machine(2, 1, 1), even_machine(3, 1, 1)]
        for text in ("", "1", "1/2", "1/2 1/2 0", "1/3 1/3 1/3", "1/2 1/3", "0 0", "1 1", "-1 2", "3/2 -1/2", "-1 0"):
            self.assert_due(BadMachine, "start", mixture, machines, ratios(text))
        self.assert_due(BadMachine, "start", mixture, machines[:1], [])
        self.assert_due(BadMachine, "start", mixture, machines[:1], ratios("1/2"))
        self.assert_due(BadMachine, "start", mixture, machines[:1], ratios("1 0"))

    def test_too_many_states(self):
        for sizes in ((12, 1), (6, 7), (1, 12), (5, 5, 3), (1,) * 13, (12, 12)):
            machines = [even_machine(states, 1, 2) for states in sizes]
            lots = [Ratio(1, len(machines))] * len(machines)
            self.assert_due(TooLarge, "states", mixture, machines, lots)
            # A lot of 0 makes no state fewer.
            lots = [Ratio(1)] + [Ratio(0)] * (len(machines) - 1)
            self.assert_due(TooLarge, "states", mixture, machines, lots)

    def test_just_12_states(self):
        for sizes in ((11, 1), (6, 6), (12,), (5, 4, 3), (1,) * 12):
            machines = [even_machine(states, 4, 4) for states in sizes]
            found = mixture(machines, [Ratio(1, len(machines))] * len(machines))
            self.assertEqual(found.states(), 12)
            weights = [Fraction(1, len(machines) * states) for states in sizes for _ in range(states)]
            self.assertEqual(plain(found)[0], weights)

    def test_each_error_ahead_of_the_later_ones(self):
        large, wide = even_machine(12, 1, 1), even_machine(12, 1, 2)
        no_lots = (ratios("1"), ratios("1/2 1/3"), ratios("-1 2"), ratios("1/2 1/2 0"), [])
        for lots in no_lots:
            self.assert_due(BadMachine, "states", mixture, [], lots or ratios("-1"))
            self.assert_due(BadMachine, "answers", mixture, [large, wide], lots)
            self.assert_due(BadMachine, "start", mixture, [large, large], lots)
        self.assert_due(BadMachine, "answers", mixture, [large, wide], ratios("1/2 1/2"))
        self.assert_due(BadMachine, "answers", mixture, [wide, wide, large], ratios("1/2 1/2 0"))
        self.assert_due(BadMachine, "answers", mixture, [even_machine(1, 1, 1), even_machine(1, 1, 2)], ratios("1/2"))


class Feeding(Checks):
    def test_by_hand(self):
        # The first one exchanges its states and answers the one it was in; the second one has a button for each.
        one = made_machine(["1/3", "2/3"], [[[[0, 1], [0, 0]], [[0, 0], [1, 0]]]])
        other = made_machine([1], [[[["1/4"]], [["3/4"]], [[0]]], [[[0]], [["1/2"]], [["1/2"]]]])
        found = feeding(one, other)
        self.assertEqual((found.states(), found.buttons(), found.answers()), (2, 1, 3))
        self.assert_weights(found, ["1/3", "2/3"], [[
            [[0, "1/4"], [0, 0]], [[0, "3/4"], ["1/2", 0]], [[0, 0], ["1/2", 0]],
        ]])

    def test_the_order_of_the_states(self):
        one = made_machine(["1/3", "2/3"], [[[[0, 1], ["1/2", "1/2"]]]])
        other = made_machine(["1/4", "1/4", "1/2"], [[[[0, 1, 0], [0, 0, 1], [1, 0, 0]]]])
        self.assert_weights(
            feeding(one, other), ["1/12", "1/12", "1/6", "1/6", "1/6", "1/3"], [[[
                [0, 0, 0, 0, 1, 0], [0, 0, 0, 0, 0, 1], [0, 0, 0, 1, 0, 0],
                [0, "1/2", 0, 0, "1/2", 0], [0, 0, "1/2", 0, 0, "1/2"], ["1/2", 0, 0, "1/2", 0, 0],
            ]]],
        )

    def test_the_sum_over_all_answers_in_between(self):
        for one, other in (
            drawn(76, (2, 3, 2), (3, 2, 4)), drawn(77, (3, 1, 4), (2, 4, 1)), drawn(78, (1, 4, 3), (4, 3, 2)),
        ):
            moves_of_one, moves_of_other = plain(one)[1], plain(other)[1]
            places = list(product(range(one.states()), range(other.states())))
            start = [plain(one)[0][state] * plain(other)[0][other_state] for state, other_state in places]
            moves = [
                [
                    [
                        [
                            sum(
                                moves_of_one[button][between][here[0]][there[0]]
                                * moves_of_other[between][answer][here[1]][there[1]]
                                for between in range(one.answers())
                            )
                            for there in places
                        ]
                        for here in places
                    ]
                    for answer in range(other.answers())
                ]
                for button in range(one.buttons())
            ]
            self.assert_weights(feeding(one, other), start, moves)

    def test_chances(self):
        one, other = drawn(79, (2, 2, 3), (2, 3, 2))
        found = feeding(one, other)
        for way in all_ways(found, 2):
            expected = sum(
                chance_of(one, tuple((button, between) for (button, _), between in zip(way, betweens)))
                * chance_of(other, tuple((between, answer) for (_, answer), between in zip(way, betweens)))
                for betweens in product(range(3), repeat=2)
            )
            self.assertEqual(fraction(chance(found, way)), expected)

    def test_feeding_a_machine_that_hands_on(self):
        machine = drawn(80, (3, 2, 3))[0]
        hands_on = made_machine([1], [[[[int(button == answer)]] for answer in range(3)] for button in range(3)])
        self.assertEqual(feeding(machine, hands_on), machine)
        hands_on = made_machine([1], [[[[int(button == answer)]] for answer in range(2)] for button in range(2)])
        self.assertEqual(feeding(hands_on, machine), machine)

    def test_what_does_not_fit(self):
        for answers, buttons in product(range(1, 5), repeat=2):
            one, other = even_machine(2, 2, answers), even_machine(2, buttons, 3)
            if answers == buttons:
                self.assertEqual(feeding(one, other).states(), 4)
            else:
                self.assert_due(BadMachine, "buttons", feeding, one, other)
        # The buttons of the first one and the answers of the second one need not fit anything.
        self.assertEqual(feeding(even_machine(1, 4, 2), even_machine(1, 2, 3)).answers(), 3)
        self.assert_due(BadMachine, "buttons", feeding, even_machine(1, 2, 4), even_machine(1, 2, 4))

    def test_12_states_and_more(self):
        for states, others in product(range(1, 13), repeat=2):
            one, other = even_machine(states, 1, 2), even_machine(others, 2, 1)
            if states * others <= 12:
                self.assertEqual(feeding(one, other).states(), states * others)
            else:
                self.assert_due(TooLarge, "states", feeding, one, other)

    def test_what_does_not_fit_comes_ahead_of_too_many_states(self):
        self.assert_due(BadMachine, "buttons", feeding, even_machine(12, 1, 2), even_machine(12, 1, 1))
        self.assert_due(BadMachine, "buttons", feeding, even_machine(4, 2, 1), even_machine(4, 2, 1))

    def test_just_4_answers(self):
        self.assertEqual(feeding(even_machine(3, 4, 4), even_machine(4, 4, 4)), even_machine(12, 4, 4))


class Beside(Checks):
    def test_by_hand(self):
        one = made_machine([1], [[[["1/3"]], [["2/3"]]]])
        other = made_machine(["1/4", "3/4"], [[[["1/2", 0], [0, 1]], [[0, "1/2"], [0, 0]]]])
        self.assert_weights(beside(one, other), ["1/4", "3/4"], [[
            [["1/6", 0], [0, "1/3"]], [[0, "1/6"], [0, 0]], [["1/3", 0], [0, "2/3"]], [[0, "1/3"], [0, 0]],
        ]])
        self.assert_weights(beside(other, one), ["1/4", "3/4"], [[
            [["1/6", 0], [0, "1/3"]], [["1/3", 0], [0, "2/3"]], [[0, "1/6"], [0, 0]], [[0, "1/3"], [0, 0]],
        ]])

    def test_the_order_of_the_states(self):
        one = made_machine(["1/3", "2/3"], [[[[0, 1], ["1/2", "1/2"]]]])
        other = made_machine(["1/4", "1/4", "1/2"], [[[[0, 1, 0], [0, 0, 1], [1, 0, 0]]]])
        self.assert_weights(
            beside(other, one), ["1/12", "1/6", "1/12", "1/6", "1/6", "1/3"], [[[
                [0, 0, 0, 1, 0, 0], [0, 0, "1/2", "1/2", 0, 0], [0, 0, 0, 0, 0, 1],
                [0, 0, 0, 0, "1/2", "1/2"], [0, 1, 0, 0, 0, 0], ["1/2", "1/2", 0, 0, 0, 0],
            ]]],
        )

    def test_the_products_of_the_weights(self):
        for one, other in (
            drawn(81, (2, 3, 2), (3, 3, 2)), drawn(82, (3, 1, 4), (2, 1, 1)), drawn(83, (1, 4, 1), (4, 4, 3)),
        ):
            moves_of_one, moves_of_other = plain(one)[1], plain(other)[1]
            places = list(product(range(one.states()), range(other.states())))
            start = [plain(one)[0][state] * plain(other)[0][other_state] for state, other_state in places]
            moves = [
                [
                    [
                        [
                            moves_of_one[button][answer // other.answers()][here[0]][there[0]]
                            * moves_of_other[button][answer % other.answers()][here[1]][there[1]]
                            for there in places
                        ]
                        for here in places
                    ]
                    for answer in range(one.answers() * other.answers())
                ]
                for button in range(one.buttons())
            ]
            self.assert_weights(beside(one, other), start, moves)

    def test_the_chance_is_the_product(self):
        for one, other in (drawn(84, (2, 2, 2), (2, 2, 2)), drawn(85, (3, 1, 3), (2, 1, 1)), drawn(86, (1, 2, 1), (2, 2, 4))):
            found = beside(one, other)
            self.assertEqual(found.answers(), one.answers() * other.answers())
            for length in range(3):
                for way in all_ways(found, length):
                    answers = [divmod(answer, other.answers()) for _, answer in way]
                    expected = chance_of(one, tuple((step[0], pair[0]) for step, pair in zip(way, answers)))
                    expected *= chance_of(other, tuple((step[0], pair[1]) for step, pair in zip(way, answers)))
                    self.assertEqual(fraction(chance(found, way)), expected)

    def test_what_does_not_fit(self):
        for buttons, others in product(range(1, 5), repeat=2):
            one, other = even_machine(2, buttons, 2), even_machine(2, others, 2)
            if buttons == others:
                self.assertEqual(beside(one, other).buttons(), buttons)
            else:
                self.assert_due(BadMachine, "buttons", beside, one, other)

    def test_12_states_and_more(self):
        for states, others in product(range(1, 13), repeat=2):
            one, other = even_machine(states, 1, 2), even_machine(others, 1, 1)
            if states * others <= 12:
                self.assertEqual(beside(one, other).states(), states * others)
            else:
                self.assert_due(TooLarge, "states", beside, one, other)

    def test_4_answers_and_more(self):
        for answers, others in product(range(1, 5), repeat=2):
            one, other = even_machine(1, 1, answers), even_machine(2, 1, others)
            if answers * others <= 4:
                self.assertEqual(beside(one, other).answers(), answers * others)
            else:
                self.assert_due(TooLarge, "answers", beside, one, other)

    def test_each_error_ahead_of_the_later_ones(self):
        self.assert_due(BadMachine, "buttons", beside, even_machine(12, 1, 4), even_machine(12, 2, 4))
        self.assert_due(BadMachine, "buttons", beside, even_machine(4, 1, 1), even_machine(4, 2, 1))
        self.assert_due(BadMachine, "buttons", beside, even_machine(1, 3, 4), even_machine(1, 2, 4))
        self.assert_due(TooLarge, "states", beside, even_machine(12, 2, 4), even_machine(2, 2, 4))
        self.assert_due(TooLarge, "states", beside, even_machine(4, 2, 3), even_machine(4, 2, 2))

    def test_all_limits_at_once(self):
        self.assertEqual(beside(even_machine(3, 4, 2), even_machine(4, 4, 2)), even_machine(12, 4, 4))


class PutInForEachOther(Checks):
    """Machines that are the same for all tests may be put in for each other."""

    def test_mixtures(self):
        one, other = drawn(87, (2, 2, 2), (2, 2, 2))
        for instead, other_instead in zip(others_that_are_the_same(one), others_that_are_the_same(other)):
            lots = ratios("2/5 3/5")
            found, expected = mixture([instead, other_instead], lots), mixture([one, other], lots)
            self.assertEqual(settle(found, expected).kind, "same")

    def test_feeding(self):
        one, other = drawn(88, (2, 2, 2), (2, 2, 2))
        for instead, other_instead in zip(others_that_are_the_same(one), others_that_are_the_same(other)):
            self.assertEqual(settle(feeding(instead, other_instead), feeding(one, other)).kind, "same")

    def test_beside(self):
        one, other = drawn(89, (2, 2, 2), (2, 2, 2))
        for instead, other_instead in zip(others_that_are_the_same(one), others_that_are_the_same(other)):
            self.assertEqual(settle(beside(instead, other_instead), beside(one, other)).kind, "same")

    def test_machines_that_are_apart(self):
        one, other = coins(6)
        hands_on = made_machine([1], [[[[1]], [[0]]], [[[0]], [[1]]]])
        toss = made_machine([1], [[[["1/2"]], [["1/2"]]]])
        way = ((0, 0),) * 5
        self.assertEqual(settle(feeding(one, hands_on), feeding(other, hands_on)).way, way)
        self.assertEqual(settle(beside(one, toss), beside(other, toss)).way, way)
        self.assertEqual(settle(beside(toss, one), beside(toss, other)).way, way)
        lots = ratios("1/2 1/2")
        self.assertEqual(settle(mixture([toss, one], lots), mixture([toss, other], lots)).way, way)


class Values(Checks):
    def test_arguments_stay(self):
        one, other = drawn(90, (2, 2, 2), (3, 2, 2))
        machines, lots = [one, other], ratios("1/3 2/3")
        before = written(one), written(other)
        made = mixture(machines, lots), feeding(one, other), beside(one, other)
        self.assertEqual((written(one), written(other)), before)
        self.assertEqual([str(lot) for lot in lots], ["1/3", "2/3"])
        self.assertEqual(len(machines), 2)
        self.assertIs(machines[0], one)
        self.assertIs(machines[1], other)
        again = mixture(machines, lots), feeding(one, other), beside(one, other)
        for first, second in zip(made, again):
            self.assertEqual(first, second)
            self.assertIsNot(first, second)
        machines.clear()
        lots.clear()
        self.assertEqual(made[0], again[0])

    def test_arguments_stay_when_there_is_an_error(self):
        machines, lots = drawn(91, (12, 1, 3), (12, 1, 3)), ratios("1/3 2/3")
        before = [written(machine) for machine in machines]
        for make, arguments in ((mixture, (machines, lots)), (feeding, machines), (beside, machines)):
            with self.assertRaises(TestError):
                make(*arguments)
        self.assertEqual([written(machine) for machine in machines], before)
        self.assertEqual([str(lot) for lot in lots], ["1/3", "2/3"])

    def test_a_machine_with_itself(self):
        machine = drawn(92, (3, 2, 2))[0]
        self.assertEqual(mixture([machine, machine], ratios("0 1")).states(), 6)
        self.assertEqual(feeding(machine, machine).states(), 9)
        self.assertEqual(beside(machine, machine).states(), 9)
        self.assertEqual(begun(machine, 0).moves, machine.moves)

    def test_rings(self):
        one, other = ring(["1/2", "1/3", "1/5", "1/7"]), ring(["1/2", "1/3", "1/4"])
        found = beside(one, other)
        for way in (((0, 0),) * 5, ((0, 3),) * 4, ((0, 1), (0, 2), (0, 3), (0, 0))):
            answers = [divmod(answer, 2) for _, answer in way]
            expected = chance_of(one, tuple((0, pair[0]) for pair in answers))
            expected *= chance_of(other, tuple((0, pair[1]) for pair in answers))
            self.assertEqual(fraction(chance(found, way)), expected)
        self.assertEqual(pairs_of(found), [(0, 0), (0, 1), (0, 2), (0, 3)])


if __name__ == "__main__":
    unittest.main()
