"""Thinnings: which states are kept, when one holds, and the thinned machine."""

import unittest
from fractions import Fraction
from itertools import permutations
from random import Random

from examples import drawn_machine, drawn_machines, even_machine, fraction, ratio, ratios, written
from notesttells.machine import Machine, begun
from notesttells.ratio import Ratio
from notesttells.tell import settle
from notesttells.thin import Thinning, thin, thin_holds, thinned
from references import (
    chances_from, coin_of, coins, kept_states, made_machine, plain, renamed, ring, split, with_mixtures,
    with_mixtures_used, with_unreached,
)


def three():
    """Three coins, of which none is a mixture of the others as there are two buttons."""
    return made_machine(["1/2", "1/4", "1/4"], [
        [[["1/2", 0, 0], [0, 1, 0], [0, 0, "1/2"]], [[0, "1/2", 0], [0, 0, 0], [0, "1/4", "1/4"]]],
        [[["1/3", 0, 0], [0, "1/2", 0], [0, 0, 1]], [[0, "1/3", "1/3"], ["1/2", 0, 0], [0, 0, 0]]],
    ])


def mixed():
    """The machine of three with a state 3 that is a mixture of 1 and 2, and a state 4 that is one of 0 and 3."""
    return with_mixtures_used(three(), [(0, "1/3", "2/3"), ("1/2", 0, 0, "1/2")])


def made_machines(seed, many):
    random = Random(seed)
    for _ in range(many):
        machine = drawn_machine(random, random.randint(1, 3), *random.choice(((1, 2), (2, 2), (1, 3))))
        states = machine.states()
        yield machine
        mixtures = []
        for _ in range(2):
            lots = [Fraction(random.choice((0, 1, 2, 3))) for _ in range(states + len(mixtures))]
            lots[0] += 1
            mixtures.append([lot / sum(lots) for lot in lots])
        made = with_mixtures_used(machine, mixtures)
        yield made
        yield renamed(made, random.sample(range(states + 2), states + 2))
        yield split(machine, random.randrange(states), Fraction(2, 5))


def texts(thinning):
    return list(thinning.kept), [(state, [str(lot) for lot in lots]) for state, lots in thinning.lots]


class Checks(unittest.TestCase):
    def assert_kinds(self, thinning):
        self.assertIs(type(thinning), Thinning)
        self.assertIs(type(thinning.kept), tuple)
        self.assertIs(type(thinning.lots), list)
        for pair in thinning.lots:
            self.assertIs(type(pair), tuple)
            state, lots = pair
            self.assertIs(type(state), int)
            self.assertIs(type(lots), tuple)
            for lot in lots:
                self.assertIs(type(lot), Ratio)

    def assert_thins(self, machine, kept):
        """The states are kept, and the lots of the other ones are those of mixtures."""
        found = thin(machine)
        self.assert_kinds(found)
        self.assertEqual(found.kept, tuple(kept))
        others = [state for state in range(machine.states()) if state not in kept]
        self.assertEqual([state for state, _ in found.lots], others)
        for state, lots in found.lots:
            lots = [fraction(lot) for lot in lots]
            self.assertEqual(len(lots), len(kept))
            self.assertTrue(all(lot >= 0 for lot in lots))
            self.assertEqual(sum(lots), 1)
            begins = [Ratio(0)] * machine.states()
            for other, lot in zip(kept, lots):
                begins[other] = Ratio(lot.numerator, lot.denominator)
            self.assertEqual(settle(begun(machine, state), Machine(begins, machine.moves)).kind, "same")
        self.assertIs(thin_holds(machine, found), True)
        return found


class Thin(Checks):
    def test_nothing_to_take_out(self):
        for machine in (three(), even_machine(1, 2, 2), ring(["1/2", "1/3", "1/2"])):
            self.assertEqual(self.assert_thins(machine, range(machine.states())).lots, [])

    def test_mixtures_of_others_of_which_one_is_taken_out_too(self):
        found = self.assert_thins(mixed(), (0, 1, 2))
        # The three coins are no mixtures of each other, so there is only one way to mix them.
        self.assertEqual(texts(found)[1], [(3, ["0", "1/3", "2/3"]), (4, ["1/2", "1/6", "1/3"])])

    def test_in_every_order_of_the_states(self):
        for order in permutations(range(5)):
            machine = renamed(mixed(), order)
            self.assert_thins(machine, sorted(order.index(state) for state in (0, 1, 2)))

    def test_a_mixture_of_all_others(self):
        machine = with_mixtures_used(three(), [("1/2", "1/3", "1/6")])
        found = self.assert_thins(machine, (0, 1, 2))
        self.assertEqual(texts(found)[1], [(3, ["1/2", "1/3", "1/6"])])
        self.assert_thins(renamed(machine, (3, 0, 1, 2)), (1, 2, 3))

    def test_copies_are_taken_out_from_the_last_one(self):
        for state in range(3):
            machine = split(three(), state, Fraction(1, 2))
            found = self.assert_thins(machine, (0, 1, 2))
            self.assertEqual(texts(found)[1], [(3, ["1" if at == state else "0" for at in range(3)])])
        machine = renamed(split(split(three(), 1, Fraction(1, 2)), 1, Fraction(1, 3)), (4, 0, 3, 2, 1))
        self.assert_thins(machine, (0, 1, 3))

    def test_alike_states_leave_the_first_one(self):
        self.assert_thins(even_machine(12, 2, 3), (0,))
        self.assert_thins(drawn_machine(Random(61), 7, 3, 1), (0,))
        self.assert_thins(ring(["1/2"] * 5), (0,))

    def test_coins_between_others(self):
        # Each coin is tossed once only, so the middle ones are mixtures of the outer ones.
        def tossed(chances):
            many = len(chances)
            rest = [0] * many + [1]
            return made_machine([1] + [0] * many, [[
                [[0] * many + [chance] for chance in chances] + [[0] * (many + 1)],
                [[0] * many + [1 - Fraction(chance)] for chance in chances] + [rest],
            ]])

        # The last state always answers 1, as a coin of the chance 0.
        self.assert_thins(tossed(["1/3", "1/2", "2/3"]), (2, 3))
        self.assert_thins(tossed(["1/2", "1/3", "2/3"]), (2, 3))
        self.assert_thins(tossed(["1/2", "2/3", "1/3"]), (1, 3))
        self.assert_thins(tossed(["1/4", "1/4", "1/5", "1/5"]), (0, 4))
        self.assert_thins(tossed(["1/4", "3/4", "0"]), (1, 2))
        self.assert_thins(tossed(["1/9", "1/3", "1/2", "8/9", "2/3"]), (3, 5))

    def test_a_sum_that_is_no_mixture(self):
        # One coin is a sum of the others times numbers, but one of the numbers is negative.
        def square(corners):
            many = len(corners)
            rest = [0] * many + [1]
            def button(place):
                return [
                    [[0] * many + [corner[place]] for corner in corners] + [rest],
                    [[0] * many + [1 - Fraction(corner[place])] for corner in corners] + [[0] * (many + 1)],
                ]
            return made_machine([1] + [0] * many, [button(0), button(1)])

        corners = [("1/4", "1/4"), ("1/4", "3/4"), ("3/4", "1/4"), ("3/4", "3/4")]
        self.assert_thins(square(corners), (0, 1, 2, 4))
        self.assert_thins(square(corners[:3]), (0, 1, 2, 3))
        self.assert_thins(square([("0", "0"), ("0", "1"), ("1", "0"), ("1/2", "1/2")]), (0, 1, 2, 4))
        self.assert_thins(square([("0", "0"), ("0", "3/4"), ("3/4", "0"), ("1/2", "1/2")]), (0, 1, 2, 4))
        self.assert_thins(square([("0", "0"), ("1/4", "3/4"), ("3/4", "1/4"), ("1/8", "1/8")]), (0, 1, 2, 4))
        self.assert_thins(square([("0", "0"), ("0", "1"), ("1", "0"), ("1", "1/2")]), (0, 1, 2, 4))

    def test_the_start_does_not_count(self):
        for state in range(5):
            self.assert_thins(begun(mixed(), state), (0, 1, 2))

    def test_states_that_are_never_reached(self):
        self.assert_thins(with_unreached(three()), (0, 1, 2, 3))
        self.assert_thins(with_mixtures(three(), [("1/2", "1/2", 0), (0, 0, 1, 0)]), (0, 1, 2))

    def test_against_going_through_all_mixtures(self):
        taken_out = 0
        for machine in list(made_machines(62, 7)) + drawn_machines(63, 15):
            kept = kept_states(machine)
            self.assert_thins(machine, kept)
            taken_out += machine.states() - len(kept)
        self.assertGreater(taken_out, 30)

    def test_many_coins(self):
        for machine in coins(24):
            self.assert_thins(machine, range(12))
        points = [Fraction(at + 1, 20) for at in range(6)]
        machine = coin_of(points, [1] * 6)
        lots = [[Fraction(1, 6)] * 6, [Fraction(1, 7)] * 7, [0, 0, "1/2", 0, 0, 0, "1/4", "1/4"]]
        self.assert_thins(with_mixtures_used(machine, lots), range(6))


class Holds(Checks):
    def assert_fails(self, machine, kept, lots):
        self.assertIs(thin_holds(machine, Thinning(kept, lots)), False)

    def assert_holds(self, machine, kept, lots):
        self.assertIs(thin_holds(machine, Thinning(kept, lots)), True)

    def right(self):
        """The kept states and the lots of the thinning of mixed()."""
        return (0, 1, 2), [(3, ratios("0 1/3 2/3")), (4, ratios("1/2 1/6 1/3"))]

    def test_what_is_right(self):
        kept, lots = self.right()
        self.assert_holds(mixed(), kept, lots)
        self.assert_holds(mixed(), list(kept), tuple((state, tuple(row)) for state, row in lots))

    def test_kept_states_need_not_be_as_few_as_can_be(self):
        self.assert_holds(mixed(), range(5), [])
        self.assert_holds(mixed(), (0, 1, 2, 3), [(4, ratios("1/2 0 0 1/2"))])
        self.assert_holds(mixed(), (0, 1, 2, 3), [(4, ratios("1/2 1/6 1/3 0"))])
        self.assert_holds(mixed(), (0, 1, 2, 3), [(4, ratios("1/2 1/12 1/6 1/4"))])
        self.assert_holds(mixed(), (0, 1, 2, 4), [(3, ratios("0 1/3 2/3 0"))])
        self.assert_holds(three(), (0, 1, 2), [])

    def test_kept_states_of_which_one_is_a_mixture(self):
        copies = even_machine(3, 2, 2)
        self.assert_holds(copies, (1, 2), [(0, ratios("1/3 2/3"))])
        self.assert_holds(copies, (1,), [(0, ratios("1")), (2, ratios("1"))])
        self.assert_fails(copies, (1,), [(0, ratios("1")), (2, ratios("0"))])

    def test_kept_states_out_of_order_or_doubled(self):
        _, lots = self.right()
        rows = {(0, 1, 2): lots}
        for order in permutations(range(3)):
            turned = [(state, [row[at] for at in order]) for state, row in lots]
            rows[order] = turned
            if order != (0, 1, 2):
                self.assert_fails(mixed(), order, turned)
        for kept in ((0, 0, 1, 2), (0, 1, 1, 2), (0, 1, 2, 2)):
            self.assert_fails(mixed(), kept, [(3, ratios("0 0 1/3 2/3")), (4, ratios("1/2 0 1/6 1/3"))])
            self.assert_fails(mixed(), kept, [(3, ratios("0 1/3 2/3 0")), (4, ratios("1/2 1/6 1/3 0"))])
            self.assert_fails(mixed(), kept, lots)
        self.assert_fails(even_machine(2, 1, 1), (0, 0), [(1, ratios("1/2 1/2"))])
        self.assert_fails(even_machine(2, 1, 1), (1, 0), [])
        self.assert_fails(even_machine(2, 1, 1), (0, 1, 1), [])

    def test_no_kept_states(self):
        self.assert_fails(mixed(), (), [(state, []) for state in range(5)])
        self.assert_fails(mixed(), (), [])
        self.assert_fails(even_machine(1, 1, 1), (), [(0, [])])
        self.assert_fails(even_machine(1, 1, 1), (), [])

    def test_kept_states_that_the_machine_does_not_have(self):
        _, lots = self.right()
        for kept in ((0, 1, 5), (-1, 0, 1), (0, 1, 12), (-3, -2, -1), (0, 1, 2, 5), (-1, 0, 1, 2)):
            self.assert_fails(mixed(), kept, lots)
            others = [state for state in range(5) if state not in kept]
            row = [Ratio(1)] + [Ratio(0)] * (len(kept) - 1)
            self.assert_fails(mixed(), kept, [(state, row) for state in others])
        self.assert_fails(even_machine(1, 1, 1), (1,), [(0, ratios("1"))])
        self.assert_fails(even_machine(1, 1, 1), (0, 1), [])
        self.assert_fails(even_machine(1, 1, 1), (-1,), [(0, ratios("1"))])

    def test_pairs_out_of_order_missing_doubled_or_of_other_states(self):
        kept, lots = self.right()
        for changed in (
            lots[::-1], lots[:1], lots[1:], [], lots + lots[1:], lots[:1] + lots, lots[:1] + lots[:1],
            [(0, ratios("1 0 0"))] + lots, lots[:1] + [(2, ratios("0 0 1"))], [(2, ratios("0 0 1"))] + lots,
            lots + [(5, ratios("1 0 0"))], [lots[0], (5, lots[1][1])], [lots[0], (-1, lots[1][1])],
            [(-2, lots[0][1]), lots[1]], [(-1, ratios("1/2 1/6 1/3"))] + lots,
        ):
            self.assert_fails(mixed(), kept, changed)
        self.assert_fails(three(), (0, 1, 2), [(2, ratios("0 0 1"))])
        self.assert_fails(three(), (0, 1, 2), [(3, ratios("0 0 1"))])

    def test_too_many_or_too_few_lots(self):
        kept, lots = self.right()
        for at in range(2):
            state, row = lots[at]
            for changed in (row + [Ratio(0)], [Ratio(0)] + row, row[:-1], row[1:], [], row + row):
                self.assert_fails(mixed(), kept, lots[:at] + [(state, changed)] + lots[at + 1:])
        self.assert_fails(even_machine(3, 1, 1), (0, 1), [(2, ratios("1"))])
        self.assert_fails(even_machine(3, 1, 1), (0, 1), [(2, ratios("1 0 0"))])
        self.assert_fails(even_machine(3, 1, 1), (0, 1), [(2, [])])

    def test_lots_that_are_negative_or_of_another_sum(self):
        copies = even_machine(3, 1, 1)
        self.assert_holds(copies, (0, 1), [(2, ratios("1/4 3/4"))])
        self.assert_holds(copies, (0, 1), [(2, ratios("0 1"))])
        for text in ("-1/4 5/4", "2 -1", "-1 2", "1/4 1/4", "0 0", "1 1", "3/4 1/3", "-1 0", "-1 -1"):
            self.assert_fails(copies, (0, 1), [(2, ratios(text))])
        # The coin 0 would be a mixture of the coins 1 and 2, if a negative lot were one.
        coin = coin_of([Fraction(1, 4)] * 3, [1, 1, 1])
        self.assert_fails(coin, (0, 2), [(1, ratios("-1 2"))])

    def test_lots_that_would_add_up_but_for_their_signs(self):
        corners = [("1/4", "1/4"), ("1/4", "3/4"), ("3/4", "1/4"), ("3/4", "3/4")]
        rest = [0] * 4 + [1]
        machine = made_machine([1, 0, 0, 0, 0], [
            [
                [[0] * 4 + [corner[at]] for corner in corners] + [rest],
                [[0] * 4 + [1 - Fraction(corner[at])] for corner in corners] + [[0] * 5],
            ]
            for at in range(2)
        ])
        self.assert_fails(machine, (0, 1, 2, 4), [(3, ratios("-1 1 1 0"))])

    def test_lots_that_tell_no_mixture(self):
        kept, lots = self.right()
        for at, text in (
            (0, "1/3 0 2/3"), (0, "0 2/3 1/3"), (0, "1 0 0"), (0, "1/3 1/3 1/3"), (1, "0 1/3 2/3"), (1, "1/2 1/3 1/6"),
        ):
            self.assert_fails(mixed(), kept, lots[:at] + [(lots[at][0], ratios(text))] + lots[at + 1:])
        for state in range(3):
            others = [other for other in range(3) if other != state]
            for text in ("1 0", "0 1", "1/2 1/2"):
                self.assert_fails(three(), others, [(state, ratios(text))])

    def test_mixtures_that_differ_only_late(self):
        machine = ring(["1/2"] * 4 + ["1/3"])
        for state in range(1, 5):
            others = [other for other in range(5) if other != state]
            row = [Ratio(int(other == state - 1)) for other in others]
            self.assert_fails(machine, others, [(state, row)])

    def test_other_lots_of_the_same_mixture(self):
        machine = with_mixtures_used(even_machine(2, 1, 2), [("1/2", "1/2")])
        for text in ("1 0", "0 1", "1/3 2/3"):
            self.assert_holds(machine, (0, 1), [(2, ratios(text))])

    def test_what_was_found_for_other_machines(self):
        for machine in made_machines(64, 3):
            if machine.states() != 5:
                self.assertIs(thin_holds(machine, Thinning(*self.right())), False)
        self.assertIs(thin_holds(coins(10)[0], Thinning(*self.right())), False)
        self.assertIs(thin_holds(mixed(), thin(coins(10)[0])), True)
        self.assertIs(thin_holds(coins(10)[0], thin(even_machine(5, 1, 2))), False)


class Thinned(Checks):
    def test_by_hand(self):
        machine = made_machine(["1/4", "1/4", "1/2"], [[
            [["1/2", 0, "1/2"], [0, 0, 0], ["1/8", "1/16", "5/16"]],
            [[0, 0, 0], [0, "1/4", "3/4"], [0, "1/4", "1/4"]],
        ]])
        found = thinned(machine, Thinning((0, 1), [(2, ratios("1/3 2/3"))]))
        self.assertIs(type(found), Machine)
        self.assertEqual(found, Machine(ratios("5/12 7/12"), [[
            [ratios("2/3 1/3"), ratios("0 0")], [ratios("0 0"), ratios("1/4 3/4")],
        ]]))

    def test_the_start_and_the_moves(self):
        for machine in made_machines(65, 5):
            thinning = thin(machine)
            shares = {state: [Fraction(int(state == other)) for other in thinning.kept] for state in thinning.kept}
            for state, lots in thinning.lots:
                shares[state] = [fraction(lot) for lot in lots]

            def shared(weights):
                return [
                    sum(weight * shares[state][at] for state, weight in enumerate(weights))
                    for at in range(len(thinning.kept))
                ]

            start, moves = plain(machine)
            self.assertEqual(plain(thinned(machine, thinning)), (
                shared(start),
                [[[shared(rows[state]) for state in thinning.kept] for rows in parts] for parts in moves],
            ))

    def test_the_same_for_all_tests_and_nothing_more_to_take_out(self):
        for machine in list(made_machines(66, 6)) + [mixed(), even_machine(4, 2, 2), three(), *coins(7)]:
            thinning = thin(machine)
            found = thinned(machine, thinning)
            self.assertEqual(found.states(), len(thinning.kept))
            self.assertEqual(settle(machine, found).kind, "same")
            self.assertEqual(thin(found), Thinning(range(found.states()), []))

    def test_thinnings_that_keep_more(self):
        machine = mixed()
        for kept, lots in (
            ((0, 1, 2, 3), [(4, ratios("1/2 0 0 1/2"))]), ((0, 1, 2, 4), [(3, ratios("0 1/3 2/3 0"))]),
        ):
            found = thinned(machine, Thinning(kept, lots))
            self.assertEqual(found.states(), 4)
            self.assertEqual(settle(machine, found).kind, "same")
        self.assertEqual(thinned(machine, Thinning(range(5), [])), machine)

    def test_a_state_that_is_not_kept_ahead_of_the_kept_ones(self):
        machine = renamed(mixed(), (3, 0, 4, 1, 2))
        found = thinned(machine, thin(machine))
        self.assertEqual(found, thinned(mixed(), thin(mixed())))

    def test_nothing_taken_out_gives_a_new_machine(self):
        machine = three()
        found = thinned(machine, thin(machine))
        self.assertEqual(found, machine)
        self.assertIsNot(found, machine)


class Fields(Checks):
    def test_whatever_was_passed(self):
        kinds = (list, tuple)
        for outer, inner, rows, kept in [(o, i, r, k) for o in kinds for i in kinds for r in kinds for k in kinds]:
            lots = outer(((1, rows(ratios("1/2 1/2"))), (3, rows(ratios("0 1")))))
            found = Thinning(kept((0, 2)), lots)
            self.assert_kinds(found)
            self.assertEqual(texts(found), ([0, 2], [(1, ["1/2", "1/2"]), (3, ["0", "1"])]))

    def test_keywords_and_empty_ones(self):
        found = Thinning(lots=[], kept=[0])
        self.assert_kinds(found)
        self.assertEqual((found.kept, found.lots), ((0,), []))
        self.assert_kinds(Thinning([], ()))

    def test_copies(self):
        kept, row = [0, 2], ratios("1/2 1/2")
        lots = [(1, row)]
        found = Thinning(kept, lots)
        kept.append(3)
        kept[0] = 7
        row[0] = Ratio(7)
        row.pop()
        lots.append((3, row))
        self.assertEqual(texts(found), ([0, 2], [(1, ["1/2", "1/2"])]))
        kept, row = [0, 2], ratios("1/2 1/2")
        lots = [(1, row)]
        found = Thinning(kept, lots)
        found.lots.append((3, row))
        found.lots[0] = (7, ())
        self.assertEqual((kept, lots), ([0, 2], [(1, ratios("1/2 1/2"))]))

    def test_equal(self):
        def one():
            return Thinning((0, 2), [(1, ratios("1/2 1/2")), (3, ratios("0 1"))])

        self.assertIs(one() == one(), True)
        self.assertIs(one() != one(), False)
        self.assertIs(one() == Thinning([0, 2], ((1, tuple(ratios("1/2 1/2"))), (3, ratios("0 1")))), True)
        rows = [(1, ratios("1/2 1/2")), (3, ratios("0 1"))]
        for kept, lots in (
            ((0, 1), rows), ((0,), rows), ((2, 0), rows), ((0, 2, 4), rows), ((), rows), ((0, 2), []),
            ((0, 2), rows[:1]), ((0, 2), rows[::-1]), ((0, 2), rows + rows[:1]), ((0, 2), [(2, rows[0][1]), rows[1]]),
            ((0, 2), [(1, ratios("1/3 2/3")), rows[1]]), ((0, 2), [(1, ratios("1/2")), rows[1]]),
            ((0, 2), [rows[0], (3, ratios("0 1 0"))]),
        ):
            self.assertIs(one() == Thinning(kept, lots), False)
            self.assertIs(one() != Thinning(kept, lots), True)
        for other in (None, 1, (0, 2), rows, ((0, 2), rows), three()):
            self.assertIs(one() == other, False)
            self.assertIs(one() != other, True)


class Values(Checks):
    def test_arguments_stay_and_calls_do_not_change_each_other(self):
        for machine in list(made_machines(67, 2)) + [mixed()]:
            before = written(machine)
            thinning = thin(machine)
            told = texts(thinning)
            self.assertIs(thin_holds(machine, thinning), True)
            found = written(thinned(machine, thinning))
            self.assertEqual(texts(thinning), told)
            self.assertEqual(written(machine), before)
            self.assertEqual(written(thinned(machine, thinning)), found)
            thinning.lots.clear()
            self.assertEqual(texts(thin(machine)), told)
            self.assertEqual(written(machine), before)

    def test_large_machines(self):
        random = Random(68)
        machine = drawn_machine(random, 8, 4, 4)
        lots = [[Fraction(1, 8)] * 8, ["1/2", "1/2"] + [0] * 7, [0] * 6 + ["1/4", "1/4", "1/4", "1/4"], [0] * 10 + [1]]
        machine = with_mixtures_used(machine, lots)
        self.assertEqual(machine.states(), 12)
        order = random.sample(range(12), 12)
        machine = renamed(machine, order)
        thinning = thin(machine)
        self.assert_kinds(thinning)
        self.assertIs(thin_holds(machine, thinning), True)
        self.assertEqual(len(thinning.kept), 8)
        self.assertEqual(settle(machine, thinned(machine, thinning)).kind, "same")
        state, row = thinning.lots[-1]
        thinning.lots[-1] = state, row[:-1] + (row[-1] + ratio("1/1000"),)
        self.assertIs(thin_holds(machine, thinning), False)


if __name__ == "__main__":
    unittest.main()
