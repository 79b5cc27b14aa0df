"""What settle finds about two machines."""

import unittest
from fractions import Fraction
from itertools import product
from random import Random

from examples import drawn_machine, drawn_machines, even_machine, fraction, ratios, written
from notesttells.machine import Machine, begun, chance
from notesttells.ratio import Ratio
from notesttells.tell import Found, settle
from references import (
    chance_of, coins, first_way_apart, found_by_ways, made_machine, moved_on, pairs_of, plain, plain_found, renamed,
    ring, solved, split, with_mixtures_used, with_unreached,
)

SIZES = [(1, 1), (1, 2), (2, 1), (1, 3), (2, 2)]


def counter(many, buttons=1):
    """Goes from state to state at the last button, and answers 1 there only at the last state; otherwise 0."""
    ahead = [[0] * many for _ in range(many)]
    behind = [[0] * many for _ in range(many)]
    for state in range(many - 1):
        ahead[state][state + 1] = 1
    behind[many - 1][0] = 1
    stay = [[int(here == there) for there in range(many)] for here in range(many)]
    never = [[0] * many for _ in range(many)]
    return made_machine([1] + [0] * (many - 1), [[stay, never]] * (buttons - 1) + [[ahead, behind]])


def drawn_by_few(random, states, buttons, answers):
    """A machine with only a few positive weights, which other such ones are often like at first."""
    moves = [[[[0] * states for _ in range(states)] for _ in range(answers)] for _ in range(buttons)]
    for button, state in product(range(buttons), range(states)):
        for _ in range(random.choice((1, 1, 2))):
            moves[button][random.randrange(answers)][state][random.randrange(states)] += 1
    for button, state in product(range(buttons), range(states)):
        all_of = sum(sum(moves[button][answer][state]) for answer in range(answers))
        for answer in range(answers):
            moves[button][answer][state] = [Fraction(weight, all_of) for weight in moves[button][answer][state]]
    return begun(made_machine([1] + [0] * (states - 1), moves), random.randrange(states))


def few_pairs(seed, many):
    """Pairs of small machines that fit."""
    random = Random(seed)
    for _ in range(many):
        buttons, answers = random.choice(SIZES)
        yield tuple(drawn_by_few(random, random.randint(1, 3), buttons, answers) for _ in range(2))


def same_pairs(seed, many):
    """Pairs of machines with other weights that are the same for all tests."""
    random = Random(seed)
    for _ in range(many):
        machine = drawn_machine(random, random.randint(1, 3), *random.choice(SIZES))
        states = machine.states()
        order = random.sample(range(states), states)
        mixture = [Fraction(1, states)] * states
        yield machine, machine
        yield machine, renamed(machine, order)
        yield machine, split(machine, random.randrange(states), Fraction(random.randint(1, 4), 5))
        yield split(machine, 0, Fraction(1, 3)), renamed(machine, order)
        yield machine, with_unreached(machine)
        yield with_mixtures_used(machine, [mixture]), machine


class Checks(unittest.TestCase):
    def assert_apart(self, one, other, way):
        found = settle(one, other)
        self.assertIs(type(found), Found)
        self.assertEqual(
            (found.kind, found.vectors, found.start, found.moves, found.way), ("apart", [], [], [], way)
        )
        self.assertIs(type(found.way), tuple)
        for step in found.way:
            self.assertEqual((type(step), [type(part) for part in step]), (tuple, [int, int]))

    def assert_same(self, one, other):
        """Something is found that shows that the machines are the same."""
        found = settle(one, other)
        self.assertIs(type(found), Found)
        self.assertEqual(found.kind, "same")
        self.assertIsNone(found.way)
        for row in [*found.vectors, found.start, *found.moves]:
            self.assertIs(type(row), list)
            for number in row:
                self.assertIs(type(number), Ratio)
        self.assertLessEqual(len(found.vectors), one.states() + other.states())
        self.assert_adds_up(one, other, found)
        return found

    def assert_adds_up(self, one, other, found):
        """The sums of point [8]."""
        _, vectors, start, moves, _ = plain_found(found)
        (start_of_one, moves_of_one), (start_of_other, moves_of_other) = plain(one), plain(other)
        states = one.states()
        goals = [start_of_one + start_of_other]
        for vector in vectors:
            self.assertEqual(len(vector), states + other.states())
            self.assertEqual(sum(vector[:states]), sum(vector[states:]))
            for button, answer in pairs_of(one):
                goals.append(
                    moved_on(vector[:states], moves_of_one[button][answer])
                    + moved_on(vector[states:], moves_of_other[button][answer])
                )
        self.assertEqual(len(moves), len(goals) - 1)
        for goal, numbers in zip(goals, [start, *moves]):
            self.assertEqual(len(numbers), len(vectors))
            sums = [sum(n * vector[at] for n, vector in zip(numbers, vectors)) for at in range(len(goal))]
            self.assertEqual(sums, goal)


class Apart(Checks):
    def test_at_once(self):
        half, third = made_machine([1], [[[["1/2"]], [["1/2"]]]]), made_machine([1], [[[["1/3"]], [["2/3"]]]])
        self.assert_apart(half, third, ((0, 0),))
        self.assert_apart(third, half, ((0, 0),))

    def test_the_first_answer_that_differs(self):
        one = made_machine([1], [[[["1/4"]], [["1/2"]], [["1/4"]]]])
        other = made_machine([1], [[[["1/4"]], [["1/4"]], [["1/2"]]]])
        self.assert_apart(one, other, ((0, 1),))

    def test_the_first_button_that_differs(self):
        one = made_machine([1], [[[["1/4"]], [["3/4"]]], [[["1/4"]], [["3/4"]]], [[["1/2"]], [["1/2"]]]])
        other = made_machine([1], [[[["1/4"]], [["3/4"]]], [[["1/3"]], [["2/3"]]], [[[0]], [[1]]]])
        self.assert_apart(one, other, ((1, 0),))

    def test_answers_come_behind_buttons(self):
        # The button 0 differs at the answer 1 first, the button 1 already at the answer 0.
        one = made_machine([1], [[[["1/4"]], [["1/2"]], [["1/4"]]], [[[1]], [[0]], [[0]]]])
        other = made_machine([1], [[[["1/4"]], [["1/4"]], [["1/2"]]], [[[0]], [[1]], [[0]]]])
        self.assert_apart(one, other, ((0, 1),))

    def test_only_the_start_differs(self):
        machine = made_machine([1, 0], [[[["1/2", 0], [0, "1/3"]], [["1/2", 0], [0, "2/3"]]]])
        self.assert_apart(machine, begun(machine, 1), ((0, 0),))

    def test_behind_several_presses(self):
        for many in range(1, 6):
            for buttons in (1, 2):
                press = buttons - 1
                self.assert_apart(
                    counter(many, buttons), counter(many + 1, buttons), ((press, 0),) * many
                )
                self.assert_apart(counter(6, buttons), counter(many, buttons), ((press, 0),) * many)

    def test_a_longer_way_although_the_first_answer_is_the_last_one(self):
        # Only the answer 1 leads on; what is behind it differs at the answer 1 of the button 1.
        moves = [
            [[["1/2", 0], [0, "1/2"]], [[0, "1/2"], [0, "1/2"]]],
            [[["1/2", 0], [0, "1/2"]], [["1/2", 0], [0, "1/2"]]],
        ]
        other_moves = [moves[0], [moves[1][0], [["1/2", 0], ["1/4", "1/4"]]]]
        one, other = made_machine([1, 0], moves), made_machine([1, 0], other_moves)
        self.assert_same(one, other)
        other_moves[1] = [[["1/2", 0], [0, "1/3"]], [["1/2", 0], [0, "2/3"]]]
        self.assert_apart(one, made_machine([1, 0], other_moves), ((0, 1), (1, 0)))

    def test_behind_as_many_presses_as_can_be(self):
        for many in list(range(2, 13)) + [24]:
            one, other = coins(many)
            self.assertEqual(one.states() + other.states(), many)
            self.assert_apart(one, other, ((0, 0),) * (many - 1))
            self.assert_apart(other, one, ((0, 0),) * (many - 1))

    def test_against_all_ways_in_order(self):
        lengths = {}
        for one, other in few_pairs(11, 400):
            way = first_way_apart(one, other)
            if way is None:
                self.assert_same(one, other)
            else:
                self.assert_apart(one, other, way)
            lengths[None if way is None else len(way)] = True
        # The pairs are worth their name only if they are of all kinds.
        self.assertLessEqual({None, 1, 2, 3}, set(lengths))

    def test_machines_that_differ_in_one_weight_against_all_ways_in_order(self):
        random = Random(12)
        for one, other in same_pairs(13, 12):
            if one.states() + other.states() <= 5:
                start, moves = plain(other)
                rows = moves[random.randrange(len(moves))][0]
                row = random.choice(rows)
                row[random.randrange(len(row))] += Fraction(1, 7)
                self.assert_found_by_ways(one, start, moves)

    def assert_found_by_ways(self, one, start, moves):
        """settle finds the right way for a machine and one of weights that may have to be made lots again."""
        states = len(start)
        for parts, here in product(moves, range(states)):
            all_of = sum(sum(rows[here]) for rows in parts)
            for rows in parts:
                rows[here] = [weight / all_of for weight in rows[here]]
        other = made_machine(start, moves)
        way = first_way_apart(one, other)
        if way is None:
            self.assert_same(one, other)
        else:
            self.assert_apart(one, other, way)

    def test_the_way_tells_them_apart_in_large_machines(self):
        random = Random(14)
        for states, other_states in ((12, 12), (12, 1), (5, 9)):
            one, other = drawn_machine(random, states, 4, 4), drawn_machine(random, other_states, 4, 4)
            way = settle(one, other).way
            self.assertNotEqual(chance_of(one, way), chance_of(other, way))


class Same(Checks):
    def test_by_hand(self):
        fair = made_machine([1], [[[["1/2"]], [["1/2"]]]])
        other = made_machine([1, 0], [[[[0, "1/2"], [0, "1/2"]], [["1/2", 0], ["1/2", 0]]]])
        expected = Found(
            "same", [ratios("1 1 0"), ratios("1/2 0 1/2")], ratios("1 0"),
            [ratios("0 1"), ratios("1/2 0"), ratios("0 1/2"), ratios("1/4 0")], None,
        )
        self.assertEqual(settle(fair, other), expected)
        self.assertEqual(plain_found(settle(fair, other)), plain_found(expected))

    def test_by_hand_the_other_way_round(self):
        fair = made_machine([1], [[[["1/2"]], [["1/2"]]]])
        other = made_machine([1, 0], [[[[0, "1/2"], [0, "1/2"]], [["1/2", 0], ["1/2", 0]]]])
        self.assertEqual(settle(other, fair), Found(
            "same", [ratios("1 0 1"), ratios("0 1/2 1/2")], ratios("1 0"),
            [ratios("0 1"), ratios("1/2 0"), ratios("0 1/2"), ratios("1/4 0")], None,
        ))

    def test_by_hand_with_an_answer_that_is_never_given_and_two_buttons(self):
        # The button 0 exchanges the states, the button 1 leads to either; the answer is always 1.
        machine = made_machine([1, 0], [
            [[[0, 0], [0, 0]], [[0, 1], [1, 0]]], [[[0, 0], [0, 0]], [["1/2", "1/2"], ["1/2", "1/2"]]],
        ])
        single = made_machine([1], [[[[0]], [[1]]], [[[0]], [[1]]]])
        self.assertEqual(settle(machine, single), Found(
            "same", [ratios("1 0 1"), ratios("0 1 1")], ratios("1 0"),
            [
                ratios("0 0"), ratios("0 1"), ratios("0 0"), ratios("1/2 1/2"),
                ratios("0 0"), ratios("1 0"), ratios("0 0"), ratios("1/2 1/2"),
            ],
            None,
        ))

    def test_single_states(self):
        machine = made_machine([1], [[[["1/3"]], [["2/3"]]]])
        self.assertEqual(
            settle(machine, machine), Found("same", [ratios("1 1")], ratios("1"), [ratios("1/3"), ratios("2/3")], None)
        )

    def test_vectors_are_kept_in_the_order_of_the_ways(self):
        # The button 1 leads on to the state 1 at once, the button 0 leads to the state 2 and then to the state 3.
        rows = [[0, 0, 1, 0], [0, 1, 0, 0], [0, 0, 0, 1], [0, 0, 0, 1]]
        other_rows = [[0, 1, 0, 0], [0, 1, 0, 0], [0, 1, 0, 0], [0, 0, 0, 1]]
        machine = made_machine([1, 0, 0, 0], [[rows], [other_rows]])
        single = made_machine([1], [[[[1]]], [[[1]]]])
        found = self.assert_same(machine, single)
        self.assertEqual(
            [[str(part) for part in vector] for vector in found.vectors],
            ["1 0 0 0 1".split(), "0 0 1 0 1".split(), "0 1 0 0 1".split(), "0 0 0 1 1".split()],
        )
        self.assertEqual(plain_found(found), found_by_ways(machine, single))

    def test_a_machine_and_itself(self):
        for machine in drawn_machines(15, 25) + [even_machine(12, 4, 4), even_machine(1, 1, 1)]:
            found = self.assert_same(machine, machine)
            self.assertLessEqual(len(found.vectors), machine.states())
            for vector in found.vectors:
                self.assertEqual(vector[:machine.states()], vector[machine.states():])

    def test_against_going_through_the_ways(self):
        for one, other in same_pairs(16, 20):
            self.assertEqual(plain_found(self.assert_same(one, other)), found_by_ways(one, other))
            self.assertEqual(plain_found(self.assert_same(other, one)), found_by_ways(other, one))

    def test_machines_with_few_weights_against_going_through_the_ways(self):
        many = 0
        for one, other in few_pairs(17, 300):
            if settle(one, other).kind == "same":
                many += 1
                self.assertEqual(plain_found(self.assert_same(one, other)), found_by_ways(one, other))
        self.assertGreater(many, 30)

    def test_kept_vectors_are_no_sums_of_the_ones_ahead(self):
        for one, other in same_pairs(18, 10):
            vectors = plain_found(settle(one, other))[1]
            for at, vector in enumerate(vectors):
                self.assertIsNone(solved(vectors[:at], vector))

    def test_as_many_vectors_as_can_be(self):
        # With a single answer all machines are the same, and only the sums of both halves are bound.
        one = ring(["1/2", "1/3", "1/5"], 1)
        other = ring(["1/7", "2/3", "3/5", "5/6"], 1)
        found = self.assert_same(one, other)
        self.assertEqual(len(found.vectors), 6)
        self.assertEqual(plain_found(found), found_by_ways(one, other))

    def test_many_large_numbers(self):
        random = Random(19)
        one, other = drawn_machine(random, 12, 1, 1), drawn_machine(random, 12, 1, 1)
        self.assertLessEqual(len(self.assert_same(one, other).vectors), 24)
        one, other = drawn_machine(random, 12, 4, 1), drawn_machine(random, 12, 4, 1)
        self.assertEqual(len(self.assert_same(one, other).vectors), 23)


class Values(Checks):
    def test_arguments_stay_and_calls_do_not_change_each_other(self):
        one, other = drawn_machine(Random(20), 3, 2, 2), even_machine(2, 2, 2)
        for first, second in ((one, split(one, 1, Fraction(1, 2))), (one, other), (one, one)):
            before = written(first), written(second)
            found = settle(first, second)
            self.assertEqual((written(first), written(second)), before)
            parts = plain_found(found)
            for row in [*found.vectors, found.start, *found.moves]:
                row.append(Ratio(7))
                row[0] = Ratio(7)
            found.vectors.append([])
            found.moves.clear()
            self.assertEqual(plain_found(settle(first, second)), parts)
            self.assertEqual((written(first), written(second)), before)

    def test_lists_of_what_is_found_are_not_shared(self):
        found = settle(even_machine(2, 2, 2), even_machine(1, 2, 2))
        lists = [found.vectors, found.start, found.moves, *found.vectors, *found.moves]
        self.assertEqual(len({id(row) for row in lists}), len(lists))

    def test_what_is_told_agrees_with_chance(self):
        for one, other in few_pairs(21, 60):
            found = settle(one, other)
            if found.kind == "apart":
                self.assertNotEqual(fraction(chance(one, found.way)), fraction(chance(other, found.way)))

    def test_machines_of_tuples_and_of_lists(self):
        start, moves = ratios("1/2 1/2"), [[[ratios("1/2 1/2"), ratios("0 1")]]]
        one, other = Machine(start, moves), Machine(tuple(start), tuple(moves))
        self.assertEqual(settle(one, other), settle(other, one))


if __name__ == "__main__":
    unittest.main()
