"""The best test of a length, and the chance to be right with a plan."""

import unittest
from fractions import Fraction
from itertools import product
from random import Random

from examples import drawn_machine, even_machine, fraction, written
from notesttells.best import best_test, plan_chance
from notesttells.errors import TooLarge
from notesttells.ratio import Ratio
from notesttells.tell import settle
from references import chance_of, coins, diagonal, made_machine, renamed, ring, split

HALF = Fraction(1, 2)


def all_plans(buttons, answers, length):
    """All plans of so many presses, in the order of tuples."""
    if length == 0:
        return [("say", 1), ("say", 2)]
    parts = all_plans(buttons, answers, length - 1)
    return [("press", button, some) for button in range(buttons) for some in product(parts, repeat=answers)]


def leaves(plan, way=()):
    """The ways through a plan, with what is said behind them."""
    if plan[0] == "say":
        return [(way, plan[1])]
    _, button, parts = plan
    return [leaf for answer, part in enumerate(parts) for leaf in leaves(part, way + ((button, answer),))]


class Chances:
    """The chances of the ways of two machines, each reckoned once."""

    def __init__(self, one, other):
        self.machines = {1: one, 2: other}
        self.known = {}

    def of(self, said, way):
        if (said, way) not in self.known:
            self.known[said, way] = chance_of(self.machines[said], way)
        return self.known[said, way]

    def right(self, plan):
        return sum(self.of(said, way) for way, said in leaves(plan)) / 2


def small_pairs(seed, buttons, answers, many):
    """Pairs of small machines, some of which give some answers never or are the same."""
    random = Random(seed)
    for _ in range(many):
        one, other = [drawn_machine(random, random.randint(1, 3), buttons, answers) for _ in range(2)]
        yield one, other
        yield one, renamed(one, random.sample(range(one.states()), one.states()))


def sure(buttons, answers, given):
    """A machine of one state that always gives this answer."""
    return made_machine([1], [[[[int(answer == given)]] for answer in range(answers)]] * buttons)


def coin(*chances):
    """A machine of one state with these chances of the answer 1 for its buttons."""
    return made_machine([1], [[[[1 - Fraction(chance)]], [[Fraction(chance)]]] for chance in chances])


class Checks(unittest.TestCase):
    def assert_best(self, one, other, length, chance, plan):
        found = best_test(one, other, length)
        self.assertIs(type(found), tuple)
        self.assertIs(type(found[0]), Ratio)
        self.assertEqual((fraction(found[0]), found[1]), (Fraction(chance), plan))
        self.assert_kinds(found[1])
        self.assertEqual(fraction(plan_chance(one, other, found[1])), Fraction(chance))

    def assert_kinds(self, plan):
        self.assertIs(type(plan), tuple)
        self.assertIs(type(plan[1]), int)
        if plan[0] == "press":
            self.assertIs(type(plan[2]), tuple)
            for part in plan[2]:
                self.assert_kinds(part)


class Best(Checks):
    def test_no_presses(self):
        for one, other in [(coin("1/2"), coin("1/3")), (sure(1, 2, 0), sure(1, 2, 1)), coins(5)]:
            self.assert_best(one, other, 0, HALF, ("say", 1))
            self.assert_best(other, one, 0, HALF, ("say", 1))

    def test_one_press_of_coins(self):
        self.assert_best(coin("1/2"), coin("1/3"), 1, "7/12", ("press", 0, (("say", 2), ("say", 1))))
        self.assert_best(coin("1/3"), coin("1/2"), 1, "7/12", ("press", 0, (("say", 1), ("say", 2))))

    def test_two_presses_of_coins(self):
        # 1/9 or 1/4, 2/9 or 1/4 twice, 4/9 or 1/4: the greater ones are 1/4, 1/4, 1/4 and 4/9.
        plan = ("press", 0, (("press", 0, (("say", 1), ("say", 2))), ("press", 0, (("say", 2), ("say", 2)))))
        self.assert_best(coin("1/3"), coin("1/2"), 2, "43/72", plan)

    def test_machines_that_are_told_apart_for_sure(self):
        self.assert_best(sure(1, 2, 0), sure(1, 2, 1), 1, 1, ("press", 0, (("say", 1), ("say", 2))))
        self.assert_best(sure(1, 2, 1), sure(1, 2, 0), 1, 1, ("press", 0, (("say", 2), ("say", 1))))

    def test_the_better_button_is_pressed(self):
        one, other = coin("1/2", "1/2", "1/2"), coin("1/3", "1/4", "1/3")
        self.assert_best(one, other, 1, "5/8", ("press", 1, (("say", 2), ("say", 1))))

    def test_the_first_one_of_equally_good_buttons_is_pressed(self):
        one, other = coin("1/2", "1/2", "1/2"), coin("1/2", "1/4", "3/4")
        self.assert_best(one, other, 1, "5/8", ("press", 1, (("say", 2), ("say", 1))))

    def test_1_is_said_where_both_are_as_likely(self):
        say = ("say", 1)
        one = made_machine([1], [[[["1/2"]], [["1/4"]], [["1/4"]]]])
        other = made_machine([1], [[[["1/2"]], [[0]], [["1/2"]]]])
        self.assert_best(one, other, 1, "5/8", ("press", 0, (say, say, ("say", 2))))

    def test_1_is_said_and_0_is_pressed_where_nothing_is_likely(self):
        nothing = ("press", 0, (("say", 1),) * 3)
        one, other = sure(2, 3, 0), sure(2, 3, 1)
        surely_one, surely_other = ("press", 0, (("say", 1),) * 3), ("press", 0, (("say", 1), ("say", 2), ("say", 1)))
        self.assert_best(one, other, 2, 1, ("press", 0, (surely_one, surely_other, nothing)))

    def test_the_next_button_depends_on_the_answer(self):
        # The button 0 draws a state, and then one of the others tells the machines apart.
        draw = [[[0, "1/2", 0], [0, 1, 0], [0, 0, 0]], [[0, 0, "1/2"], [0, 0, 0], [0, 0, 1]]]
        always_0, at_1, at_2 = [[diagonal(w), diagonal([1 - v for v in w])] for w in ((1, 1, 1), (1, 0, 1), (1, 1, 0))]
        one = made_machine([1, 0, 0], [draw, always_0, always_0, always_0])
        other = made_machine([1, 0, 0], [draw, always_0, at_2, at_1])
        behind_0, behind_1 = ("press", 3, (("say", 1), ("say", 2))), ("press", 2, (("say", 1), ("say", 2)))
        self.assert_best(one, other, 2, 1, ("press", 0, (behind_0, behind_1)))

    def test_against_all_plans(self):
        for buttons, answers, length in [
            (1, 1, 3), (3, 1, 3), (1, 2, 3), (2, 2, 2), (3, 2, 1), (1, 3, 2), (2, 3, 1), (4, 4, 1), (2, 1, 5), (3, 2, 2),
        ]:
            plans = all_plans(buttons, answers, length)
            for one, other in small_pairs(buttons * 100 + answers * 10 + length, buttons, answers, 2):
                chances = Chances(one, other)
                worths = [chances.right(plan) for plan in plans]
                most = max(worths)
                # All plans that are the best have the greatest chance at each moment; the first one of them is meant.
                self.assert_best(one, other, length, most, min(p for p, worth in zip(plans, worths) if worth == most))

    def test_against_all_plans_of_three_presses(self):
        plans = all_plans(2, 2, 3)
        one, other = [drawn_machine(Random(seed), 2, 2, 2) for seed in (71, 72)]
        chances = Chances(one, other)
        worths = [chances.right(plan) for plan in plans]
        self.assert_best(one, other, 3, max(worths), plans[worths.index(max(worths))])

    def test_the_other_order(self):
        def turned(plan):
            if plan[0] == "say":
                return ("say", 3 - plan[1])
            return ("press", plan[1], tuple(turned(part) for part in plan[2]))

        for one, other in small_pairs(41, 2, 2, 4):
            for length in range(4):
                chance, plan = best_test(one, other, length)
                other_chance, other_plan = best_test(other, one, length)
                self.assertEqual(chance, other_chance)
                self.assertEqual(plan_chance(other, one, turned(plan)), chance)
                self.assertEqual(plan_chance(one, other, turned(other_plan)), chance)

    def test_a_greater_length_is_at_least_as_good(self):
        for buttons, answers, longest in ((1, 2, 7), (2, 2, 4), (3, 1, 5), (2, 3, 3)):
            for one, other in small_pairs(buttons + 7 * answers, buttons, answers, 3):
                chances = [fraction(best_test(one, other, length)[0]) for length in range(longest + 1)]
                self.assertEqual(chances, sorted(chances))
                self.assertGreaterEqual(chances[0], HALF)
                self.assertLessEqual(chances[-1], 1)


class TheSame(Checks):
    def test_half_at_each_length(self):
        random = Random(43)
        machine = drawn_machine(random, 3, 2, 2)
        for other in (machine, renamed(machine, (2, 0, 1)), split(machine, 1, Fraction(1, 3))):
            for length in range(5):
                plan = ("say", 1)
                for _ in range(length):
                    plan = ("press", 0, (plan, plan))
                self.assert_best(machine, other, length, HALF, plan)
                self.assert_best(other, machine, length, HALF, plan)

    def test_more_than_half_exactly_from_the_length_of_the_first_way_on(self):
        for one, other in [coins(4), coins(5), coins(6), *small_pairs(44, 1, 2, 5)]:
            found = settle(one, other)
            for length in range(8):
                tells = found.kind == "apart" and length >= len(found.way)
                self.assertEqual(fraction(best_test(one, other, length)[0]) > HALF, tells)

    def test_one_button_and_one_answer(self):
        one, other = ring(["1/2", "1/3"], 1), ring(["1/5", "1/7", "2/3"], 1)
        for length in (1, 2, 39, 40):
            plan = ("say", 1)
            for _ in range(length):
                plan = ("press", 0, (plan,))
            self.assert_best(one, other, length, HALF, plan)

    def test_somewhat_more_than_40_presses(self):
        plan = best_test(even_machine(2, 1, 1), even_machine(3, 1, 1), 45)[1]
        self.assertEqual([len(way) for way, _ in leaves(plan)], [45])


class Sizes(Checks):
    def test_as_many_presses_as_there_may_be(self):
        for buttons, answers, length in (
            (1, 2, 12), (2, 1, 12), (3, 1, 7), (1, 3, 7), (2, 2, 6), (1, 4, 6), (4, 1, 6), (2, 3, 4), (3, 2, 4),
            (2, 4, 4), (4, 2, 4), (3, 3, 3), (3, 4, 3), (4, 3, 3), (4, 4, 3),
        ):
            with self.subTest(buttons=buttons, answers=answers):
                self.assertLessEqual((buttons * answers) ** length, 5000)
                self.assertGreater((buttons * answers) ** (length + 1), 5000)
                one, other = sure(buttons, answers, 0), sure(buttons, answers, answers - 1)
                chance, plan = best_test(one, other, length)
                self.assertEqual(fraction(chance), HALF if answers == 1 else 1)
                self.assertEqual({len(way) for way, _ in leaves(plan)}, {length})
                self.assertEqual(len(leaves(plan)), answers ** length)
                for more in (length + 1, length + 2, 40):
                    with self.assertRaises(TooLarge) as caught:
                        best_test(one, other, more)
                    self.assertEqual(caught.exception.what, "test")

    def test_large_machines(self):
        random = Random(45)
        for buttons, answers, length, longest in ((1, 2, 6, 12), (4, 4, 2, 3), (2, 2, 4, 6)):
            one, other = drawn_machine(random, 12, buttons, answers), drawn_machine(random, 11, buttons, answers)
            chances = Chances(one, other)
            chance, plan = best_test(one, other, length)
            self.assertEqual(fraction(chance), chances.right(plan))
            for way, said in leaves(plan):
                self.assertEqual(said, 1 if chances.of(1, way) >= chances.of(2, way) else 2)
            best, plan = best_test(one, other, longest)
            self.assertEqual(plan_chance(one, other, plan), best)
            self.assertIs(chance.less(best), True)


class Plans(Checks):
    def drawn_plan(self, random, machine, depth):
        """A plan that goes on at some answers only."""
        if depth == 0 or random.randrange(4) == 0:
            return "say", random.choice((1, 2))
        parts = tuple(self.drawn_plan(random, machine, depth - 1) for _ in range(machine.answers()))
        return "press", random.randrange(machine.buttons()), parts

    def test_plans_that_only_say(self):
        for plan in (("say", 1), ("say", 2)):
            self.assertEqual(plan_chance(coin("1/2"), coin("1/3"), plan), Ratio(1, 2))

    def test_the_worst_plan(self):
        one, other = sure(1, 2, 0), sure(1, 2, 1)
        self.assertEqual(plan_chance(one, other, ("press", 0, (("say", 2), ("say", 1)))), Ratio(0))
        self.assertEqual(plan_chance(one, other, ("press", 0, (("say", 1), ("say", 1)))), Ratio(1, 2))

    def test_all_short_plans(self):
        for buttons, answers, length in ((1, 2, 2), (2, 2, 2), (2, 3, 1), (3, 1, 2)):
            for one, other in small_pairs(46, buttons, answers, 1):
                chances = Chances(one, other)
                for plan in all_plans(buttons, answers, length):
                    self.assertEqual(fraction(plan_chance(one, other, plan)), chances.right(plan))

    def test_plans_that_go_on_at_some_answers_only(self):
        random = Random(47)
        for one, other in small_pairs(48, 2, 3, 5):
            chances = Chances(one, other)
            most = fraction(best_test(one, other, 4)[0])
            for _ in range(8):
                plan = self.drawn_plan(random, one, 4)
                chance = plan_chance(one, other, plan)
                self.assertIs(type(chance), Ratio)
                self.assertEqual(fraction(chance), chances.right(plan))
                self.assertLessEqual(fraction(chance), most)

    def test_a_long_plan(self):
        one, other = coin("1/2"), coin("1/3")
        plan, expected = ("say", 2), Fraction(1, 3) ** 40 / 2
        for _ in range(40):
            plan = ("press", 0, (("say", 1), plan))
        expected += (1 - HALF ** 40) / 2
        self.assertEqual(fraction(plan_chance(one, other, plan)), expected)


class Unchanged(unittest.TestCase):
    def test_machines_stay_as_they_were(self):
        one, other = drawn_machine(Random(49), 3, 2, 2), drawn_machine(Random(50), 2, 2, 2)
        before = written(one), written(other)
        first = best_test(one, other, 3)
        plan_chance(one, other, first[1])
        best_test(other, one, 4)
        self.assertEqual((written(one), written(other)), before)
        self.assertEqual(best_test(one, other, 3), first)


if __name__ == "__main__":
    unittest.main()
