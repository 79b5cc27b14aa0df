"""Groups of alike states, lumpings and lumped machines."""

import unittest
from fractions import Fraction
from random import Random

from examples import drawn_machine, drawn_machines, even_machine, fraction, ratios, written
from notesttells.group import alike, lumped, lumps
from notesttells.machine import Machine, begun
from notesttells.ratio import Ratio
from notesttells.tell import settle
from references import (
    chances_from, coins, is_lumping, made_machine, partitions, plain, renamed, ring, split, with_mixtures_used,
    with_unreached,
)


def forked():
    """A machine whose states 0 and 1 are alike: 0 goes to the state 3 or 4, 1 goes to 2, which answers like either.

    The state 3 always answers 0, the state 4 always 1.
    """
    return made_machine(["1/2", "1/2", 0, 0, 0], [[
        [[0, 0, 0, "1/2", "1/2"], [0, 0, 1, 0, 0], [0, 0, 0, "1/2", 0], [0, 0, 0, 1, 0], [0, 0, 0, 0, 0]],
        [[0, 0, 0, 0, 0], [0, 0, 0, 0, 0], [0, 0, 0, 0, "1/2"], [0, 0, 0, 0, 0], [0, 0, 0, 0, 1]],
    ]])


def lumpable(random, machine, parts):
    """A machine of which the given one is a lumping: its state at each place is one of the parts of a state there."""
    start, moves = plain(machine)

    def shared(weights):
        shares = [Fraction(random.choice((0, 1, 1, 2))) for _ in parts]
        for state in range(machine.states()):
            shares[parts.index(state)] += 1
        return [
            weights[state] * share / sum(more for more, other in zip(shares, parts) if other == state)
            for share, state in zip(shares, parts)
        ]

    # Each row is shared out by shares of its own, so that alike states have different rows.
    return made_machine(
        shared(start), [[[shared(rows[state]) for state in parts] for rows in tables] for tables in moves]
    )


def made_machines(seed, many):
    """Machines with states that are alike, some of which may be lumped and some may not."""
    random = Random(seed)
    for _ in range(many):
        machine = drawn_machine(random, random.randint(1, 3), random.randint(1, 2), random.randint(1, 2))
        states = machine.states()
        yield machine
        parts = list(range(states)) + [random.randrange(states) for _ in range(random.randint(1, 2))]
        random.shuffle(parts)
        yield lumpable(random, machine, parts)
        doubled = split(machine, random.randrange(states), Fraction(1, 3))
        yield renamed(doubled, random.sample(range(states + 1), states + 1))
        mixture = [Fraction(1, states)] * states
        with_two = with_mixtures_used(machine, [mixture, mixture + [Fraction(0)]])
        yield renamed(with_two, random.sample(range(states + 2), states + 2))
        yield with_unreached(machine)


class Alike(unittest.TestCase):
    def assert_kinds(self, groups):
        self.assertIs(type(groups), list)
        for group in groups:
            self.assertIs(type(group), tuple)
            self.assertTrue(all(type(state) is int for state in group))

    def test_rows_that_differ(self):
        self.assertEqual(alike(forked()), [(0, 1), (2,), (3,), (4,)])
        self.assertEqual(alike(renamed(forked(), (4, 1, 3, 0, 2))), [(0,), (1, 3), (2,), (4,)])
        self.assertEqual(alike(renamed(forked(), (0, 4, 3, 2, 1))), [(0, 4), (1,), (2,), (3,)])
        self.assert_kinds(alike(forked()))

    def test_a_single_answer(self):
        for states in range(1, 6):
            self.assertEqual(alike(drawn_machine(Random(states), states, 2, 1)), [tuple(range(states))])

    def test_none_alike(self):
        self.assertEqual(alike(coins(8)[0]), [(0,), (1,), (2,), (3,)])
        self.assertEqual(alike(even_machine(1, 1, 2)), [(0,)])

    def test_the_order_of_the_groups(self):
        # The answer of each state tells its group, and all go round.
        marks = [2, 0, 1, 0, 2, 1, 0]
        rows = [[int(there == (here + 3) % 7) for there in range(7)] for here in range(7)]
        stays = [[int(there == here) for there in range(7)] for here in range(7)]
        tables = [[row if mark == answer else [0] * 7 for row, mark in zip(stays, marks)] for answer in range(3)]
        self.assertEqual(alike(made_machine([1] + [0] * 6, [tables])), [(0, 4), (1, 3, 6), (2, 5)])
        tables = [[row if mark == answer else [0] * 7 for row, mark in zip(rows, marks)] for answer in range(3)]
        self.assertEqual(alike(made_machine([1] + [0] * 6, [tables])), [(state,) for state in range(7)])

    def test_states_that_differ_only_late_or_at_the_last_button(self):
        machine = ring(["1/2", "1/2", "1/2", "1/2", "1/3"])
        self.assertEqual(alike(machine), [(0,), (1,), (2,), (3,), (4,)])
        self.assertEqual(alike(ring(["1/2"] * 5)), [(0, 1, 2, 3, 4)])
        same, other = [["1/2", 0], [0, "1/2"]], [[1, 0], [0, "1/2"]]
        rest = [[0, 0], [0, "1/2"]]
        self.assertEqual(alike(made_machine([1, 0], [[same, same], [same, same]])), [(0, 1)])
        self.assertEqual(alike(made_machine([1, 0], [[same, same], [other, rest]])), [(0,), (1,)])

    def test_the_start_does_not_count(self):
        machine = forked()
        for state in range(5):
            self.assertEqual(alike(begun(machine, state)), alike(machine))

    def test_against_settle_for_each_two_states(self):
        for machine in list(made_machines(41, 8)) + drawn_machines(42, 15):
            groups = alike(machine)
            self.assert_kinds(groups)
            self.assertEqual(sorted(sum(groups, ())), list(range(machine.states())))
            self.assertEqual(groups, sorted(tuple(sorted(group)) for group in groups))
            place = {state: group for group in groups for state in group}
            for one in range(machine.states()):
                for other in range(machine.states()):
                    told = settle(begun(machine, one), begun(machine, other)).kind
                    self.assertEqual(told == "same", place[one] == place[other])

    def test_against_the_chances_of_all_ways(self):
        for machine in made_machines(43, 6):
            if machine.states() <= 4:
                chances = [chances_from(machine, state) for state in range(machine.states())]
                groups = {}
                for state in range(machine.states()):
                    groups.setdefault(tuple(chances[state]), []).append(state)
                self.assertEqual(alike(machine), [tuple(group) for group in groups.values()])


class Lumps(unittest.TestCase):
    def assert_fewest(self, machine):
        sets = lumps(machine)
        self.assertIs(type(sets), list)
        all_lumpings = [found for found in partitions(machine.states()) if is_lumping(machine, found)]
        fewest = min(all_lumpings, key=len)
        self.assertEqual(sets, sorted(tuple(sorted(part)) for part in fewest))
        for part in sets:
            self.assertIs(type(part), tuple)
        for lumping in all_lumpings:
            self.assertTrue(all(any(set(part) <= set(own) for own in sets) for part in lumping))

    def test_against_all_ways_of_putting_states_together(self):
        parted, whole = 0, 0
        for machine in list(made_machines(44, 10)) + drawn_machines(45, 30) + [forked(), coins(7)[0], ring(["1/2"] * 4)]:
            if machine.states() <= 6:
                self.assert_fewest(machine)
                parted += len(lumps(machine)) < machine.states()
                whole += len(lumps(machine)) > 1
        self.assertGreater(parted, 10)
        self.assertGreater(whole, 10)

    def test_by_hand(self):
        # The states 0 and 2 lead to 1 or 3 with the same sum, and the other way round.
        rows = [[0, "1/3", 0, "2/3"], [1, 0, 0, 0], [0, 1, 0, 0], ["1/4", 0, "3/4", 0]]
        nothing = [[0] * 4 for _ in range(4)]
        told = [[rows[0], [0] * 4, rows[2], [0] * 4], [[0] * 4, rows[1], [0] * 4, rows[3]]]
        self.assertEqual(lumps(made_machine([1, 0, 0, 0], [told])), [(0, 2), (1, 3)])
        self.assertEqual(lumps(made_machine([1, 0, 0, 0], [[rows, nothing]])), [(0, 1, 2, 3)])

    def test_alike_states_in_different_sets(self):
        self.assertEqual(lumps(forked()), [(0,), (1,), (2,), (3,), (4,)])
        self.assertEqual(alike(forked())[0], (0, 1))
        self.assertEqual(lumps(split(forked(), 1, Fraction(1, 2))), [(0,), (1, 5), (2,), (3,), (4,)])

    def test_sets_are_parted_more_than_once(self):
        machine = ring(["1/2"] * 5 + ["1/3"])
        self.assertEqual(lumps(machine), [(state,) for state in range(6)])
        self.assertEqual(lumps(ring(["1/2", "1/3"] * 3)), [(0, 2, 4), (1, 3, 5)])
        self.assertEqual(lumps(ring(["1/2", "1/3", "1/5"] * 4)), [(0, 3, 6, 9), (1, 4, 7, 10), (2, 5, 8, 11)])

    def test_the_start_does_not_count(self):
        machine = ring(["1/2", "1/3"] * 3)
        for state in range(6):
            self.assertEqual(lumps(begun(machine, state)), [(0, 2, 4), (1, 3, 5)])

    def test_the_order_of_the_sets(self):
        machine = renamed(ring(["1/2", "1/3", "1/5"] * 2), (2, 0, 5, 1, 4, 3))
        self.assertEqual(lumps(machine), [(0, 2), (1, 5), (3, 4)])

    def test_all_states_of_a_set_are_alike(self):
        for machine in made_machines(46, 8):
            groups = alike(machine)
            for part in lumps(machine):
                self.assertTrue(any(set(part) <= set(group) for group in groups))


class Lumped(unittest.TestCase):
    def test_by_hand(self):
        rows = [[0, "1/3", 0, "2/3"], [1, 0, 0, 0], [0, 1, 0, 0], ["1/4", 0, "3/4", 0]]
        told = [[rows[0], [0] * 4, rows[2], [0] * 4], [[0] * 4, rows[1], [0] * 4, rows[3]]]
        found = lumped(made_machine(["1/2", "1/8", "1/4", "1/8"], [told]))
        self.assertIs(type(found), Machine)
        self.assertEqual(found, Machine(
            ratios("3/4 1/4"), [[[ratios("0 1"), ratios("0 0")], [ratios("0 0"), ratios("1 0")]]]
        ))

    def test_the_start_and_the_moves(self):
        for machine in list(made_machines(47, 8)) + [forked(), ring(["1/2", "1/3"] * 3)]:
            start, moves = plain(machine)
            sets = lumps(machine)
            found = lumped(machine)
            self.assertEqual(plain(found), (
                [sum(start[state] for state in part) for part in sets],
                [
                    [
                        [[sum(rows[part[-1]][state] for state in target) for target in sets] for part in sets]
                        for rows in parts
                    ]
                    for parts in moves
                ],
            ))

    def test_the_same_for_all_tests(self):
        for machine in list(made_machines(48, 8)) + drawn_machines(49, 10) + [forked()]:
            self.assertEqual(settle(machine, lumped(machine)).kind, "same")

    def test_nothing_more_to_lump(self):
        for machine in made_machines(50, 6):
            once = lumped(machine)
            self.assertEqual(lumps(once), [(state,) for state in range(once.states())])
            self.assertEqual(lumped(once), once)

    def test_nothing_to_lump(self):
        for machine in (forked(), coins(9)[0], even_machine(1, 2, 2)):
            found = lumped(machine)
            self.assertEqual(found, machine)
            self.assertIsNot(found, machine)

    def test_everything_to_one_state(self):
        found = lumped(even_machine(12, 4, 4))
        self.assertEqual(found, even_machine(1, 4, 4))
        self.assertEqual([fraction(weight) for weight in found.start], [1])


class Values(unittest.TestCase):
    def test_arguments_stay_and_calls_do_not_change_each_other(self):
        for machine in made_machines(51, 3):
            before = written(machine)
            groups, sets, found = alike(machine), lumps(machine), lumped(machine)
            told = list(groups), list(sets), written(found)
            self.assertEqual(written(machine), before)
            groups.append((7,))
            sets.clear()
            self.assertEqual((alike(machine), lumps(machine), written(lumped(machine))), told)
            self.assertEqual(written(machine), before)

    def test_lumped_machines_are_new(self):
        machine = Machine([Ratio(1)], [[[[Ratio(1)]]]])
        self.assertIsNot(lumped(machine), machine)
        self.assertIsNot(lumped(machine), lumped(machine))

    def test_large_machines(self):
        random = Random(52)
        small = drawn_machine(random, 5, 4, 4)
        machine = lumpable(random, small, [0, 1, 2, 3, 4, 4, 3, 0, 0, 1, 2, 2])
        expected = [(0, 7, 8), (1, 9), (2, 10, 11), (3, 6), (4, 5)]
        self.assertEqual(lumps(machine), expected)
        self.assertEqual(alike(machine), expected)
        self.assertEqual(lumped(machine), small)


if __name__ == "__main__":
    unittest.main()
