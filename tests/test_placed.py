"""Machines that are placed in surroundings, and the telling surroundings of ways."""

import unittest
from fractions import Fraction
from random import Random

from examples import all_ways, drawn_machine, fraction, written
from notesttells.box import Box, box_text, read_around, read_box
from notesttells.errors import TooLarge
from notesttells.machine import Machine, begun, chance
from notesttells.run import machine_of, placed, telling
from notesttells.tell import settle
from references import (
    chance_of, coin_of, coins, diagonal, made_machine, plain, renamed, ring, split, with_mixtures_used,
    with_unreached,
)
from runs import REACHED_TOO_MANY, placed_by_paths
from texts import AROUND, Drawn


def fractions(value):
    return [fractions(part) for part in value] if isinstance(value, list) else Fraction(value)


def teller(buttons, answers):
    """A machine of one state that tells the number of its button, modulo its answers."""
    return made_machine([1], [[[[int(button % answers == a)]] for a in range(answers)] for button in range(buttons)])


def coin(chance_of_1):
    return made_machine([1], [[[[1 - Fraction(chance_of_1)]], [[Fraction(chance_of_1)]]]])


def two_coins():
    """One of two coins is drawn at the start: a fair one, and one that always falls on 1."""
    return made_machine(["1/4", "3/4"], [[diagonal([Fraction(1, 2), 0]), diagonal([Fraction(1, 2), 1])]])


class Checks(unittest.TestCase):
    def assert_machine(self, text, inside, start, moves):
        machine = placed(read_around(text), inside)
        self.assertIs(type(machine), Machine)
        self.assertEqual(plain(machine), (fractions(start), fractions(moves)))

    def assert_too_large(self, box, inside):
        with self.assertRaises(TooLarge) as caught:
            placed(box, inside)
        self.assertEqual(caught.exception.what, "states")

    def assert_as_run(self, box, inside):
        """Returns True if there are not too many states."""
        expected = placed_by_paths(box, inside)
        if expected == REACHED_TOO_MANY:
            self.assert_too_large(box, inside)
            return False
        self.assertEqual(plain(placed(box, inside)), expected)
        return True


class Examples(Checks):
    def test_the_answer_is_passed_on(self):
        text = "buttons 1 answers 2 var x 2 start press use x 0 say x set x 0"
        self.assert_machine(text, coin("1/3"), [1], [[[["2/3"]], [["1/3"]]]])
        self.assertEqual(placed(read_around(text), two_coins()), two_coins())

    def test_the_answer_is_kept(self):
        self.assert_machine(
            "buttons 1 answers 2 var x 2 start press say x use x 0", coin("1/3"), [1, 0],
            [[[["2/3", "1/3"], [0, 0]], [[0, 0], ["2/3", "1/3"]]]],
        )

    def test_a_use_at_the_start(self):
        self.assert_machine(
            "buttons 1 answers 2 var x 2 start use x 0 press say x", coin("1/3"), ["2/3", "1/3"],
            [[[[1, 0], [0, 0]], [[0, 0], [0, 1]]]],
        )
        # With the answer 0 the coin is the fair one. The states are (0, fair), (1, fair) and (1, false).
        self.assert_machine(
            "buttons 1 answers 2 var x 2 start use x 0 press say x", two_coins(), ["1/8", "1/8", "3/4"],
            [[diagonal([1, 0, 0]), diagonal([0, 1, 1])]],
        )

    def test_states_by_the_values_and_then_by_the_state_inside(self):
        machine = made_machine(["1/2", "1/2"], [[[[1, 0], [0, 1]]]])
        self.assert_machine(
            "buttons 1 answers 1 var x 2 start press set x = x 0", machine, ["1/2", "1/2", 0, 0],
            [[[[0, 0, 1, 0], [0, 0, 0, 1], [1, 0, 0, 0], [0, 1, 0, 0]]]],
        )

    def test_without_use_the_state_inside_counts_and_stays(self):
        self.assert_machine(
            "buttons 1 answers 2 start press say 1", two_coins(), ["1/4", "3/4"], [[[[0, 0], [0, 0]], [[1, 0], [0, 1]]]]
        )
        sure = begun(two_coins(), 1)
        self.assert_machine("buttons 1 answers 2 start press say 1", sure, [1], [[[[0]], [[1]]]])

    def test_states_inside_without_a_chance_are_left_out(self):
        for at in range(3):
            machine = begun(ring(["1/2", "1/2", "1/2"]), at)
            self.assertEqual(placed(read_around("buttons 1 answers 1 start press"), machine).states(), 1)
            text = "buttons 1 answers 1 var x 2 start press use x 0 set x 0"
            self.assertEqual(placed(read_around(text), machine).states(), 3)
        machine = with_unreached(two_coins())
        text = "buttons 1 answers 2 var x 2 start press use x 0 say x set x 0"
        self.assertEqual(placed(read_around(text), machine), two_coins())

    def test_the_machine_inside_keeps_its_state_between_presses(self):
        flip = made_machine([1, 0], [[[[0, 1], [0, 0]], [[0, 0], [1, 0]]]])
        self.assert_machine(
            "buttons 2 answers 2 var x 2 start press if press use x 0 use x 0 end use x 0 say x set x 0", flip, [1, 0],
            [[[[0, 1], [0, 0]], [[0, 0], [1, 0]]]] * 2,
        )
        self.assert_machine(
            "buttons 2 answers 2 var x 2 start use x 5 press if press use x 0 end use x 0 say x set x 0", flip, [0, 1],
            [[[[0, 1], [0, 0]], [[0, 0], [1, 0]]], [[[0, 0], [0, 1]], [[1, 0], [0, 0]]]],
        )

    def test_the_button_modulo_the_number_of_buttons(self):
        for buttons in range(1, 5):
            for value in (0, 1, 2, 3, 4, 5, 7, 65535):
                self.assert_machine(
                    f"buttons 1 answers 4 var x 4 start press use x {value} say x set x 0", teller(buttons, 4), [1],
                    [[[[int(answer == value % buttons)]] for answer in range(4)]],
                )

    def test_the_answer_modulo_the_size(self):
        for size in range(1, 6):
            for button in range(4):
                self.assert_machine(
                    f"buttons 1 answers 4 var x {size} start press use x {button} say x set x 0", teller(4, 4), [1],
                    [[[[int(answer == button % size)]] for answer in range(4)]],
                )

    def test_the_button_is_asked_ahead_of_the_use(self):
        self.assert_machine(
            "buttons 4 answers 4 var x 4 start press set x press use x + x 1 say x set x 0", teller(4, 4), [1],
            [[[[int(answer == (button + 1) % 4)]] for answer in range(4)] for button in range(4)],
        )

    def test_uses_on_one_side_of_an_if(self):
        self.assert_machine(
            "buttons 1 answers 4 var x 2 start press draw x 2 if x use x 0 use x 0 say x else draw x 3 say + x 2 end"
            " set x 0", coin("1/3"), [1], [[[["1/3"]], [["1/6"]], [["1/3"]], [["1/6"]]]],
        )


class Sizes(Checks):
    def test_12_states_and_13(self):
        keep = read_around("buttons 1 answers 1 start press")
        self.assertEqual(placed(keep, ring(["1/2"] * 12)).states(), 1)
        for size, behind in ((1, ""), (2, " set x 0")):
            text = f"buttons 1 answers 1 var x {size} start press use x 0{behind}"
            self.assertEqual(placed(read_around(text), ring(["1/2"] * 12)).states(), 12)
        self.assert_too_large(read_around("buttons 1 answers 1 var x 2 start press use x 0"), ring(["1/2"] * 12))
        counted = "buttons 1 answers 1 var x 12 start press set x + x 1"
        self.assertEqual(placed(read_around(counted), coin("1/2")).states(), 12)
        self.assert_too_large(read_around(counted), two_coins())
        self.assertEqual(placed(read_around(counted.replace("12", "6")), two_coins()).states(), 12)
        self.assert_too_large(read_around(counted.replace("12", "7")), two_coins())

    def test_states_that_a_use_at_the_start_makes(self):
        # Only the fair coin falls on 0 at the start, and then nothing is counted.
        text = "buttons 1 answers 1 var x 12 start use x 0 press if x if < x {} set x + x 1 end end"
        self.assertEqual(placed(read_around(text.format(5)), two_coins()).states(), 11)
        self.assert_too_large(read_around(text.format(6)), two_coins())

    def test_states_at_the_start(self):
        text = "buttons 1 answers 1 var x 6 start draw x {} press set x 0"
        self.assertEqual(placed(read_around(text.format(6)), two_coins()).states(), 12)
        wide = made_machine(["1/3"] * 3, [[diagonal([1, 1, 1])]])
        self.assertEqual(placed(read_around(text.format(4)), wide).states(), 12)
        self.assert_too_large(read_around(text.format(5)), wide)


class Compared(Checks):
    def test_the_example(self):
        for inside in (two_coins(), teller(3, 2), ring(["1/2", "1/3"]), drawn_machine(Random(65), 2, 4, 4)):
            self.assert_as_run(read_around(AROUND), inside)

    def test_drawn_surroundings(self):
        random = Random(66)
        counts = {True: 0, False: 0}
        for at in range(1500):
            data = Drawn(random, True, random.randint(0, 4), (2, 3, 4, 12)[at % 4], 9).data()
            inside = drawn_machine(random, random.randint(1, 3), random.randint(1, 3), random.randint(1, 3))
            counts[self.assert_as_run(Box(*data), inside)] += 1
        self.assertGreater(counts[True], 1000)
        self.assertGreater(counts[False], 10)

    def test_boxes_without_use(self):
        random = Random(67)
        for _ in range(100):
            box = Box(*Drawn(random, False, 2, 2, 12).data())
            self.assertEqual(placed(box, coin("1/2")), machine_of(box))


class Surroundings(Checks):
    def sames(self, random):
        machine = drawn_machine(random, 2, 2, 2)
        return [
            (machine, renamed(machine, (1, 0))), (machine, split(machine, 1, Fraction(2, 3))),
            (with_mixtures_used(machine, [["1/2", "1/2"]]), machine), (machine, with_unreached(machine)),
        ]

    def test_machines_that_are_the_same_are_so_in_surroundings(self):
        random = Random(68)
        asked = 0
        for at in range(40):
            box = Box(*Drawn(random, True, random.randint(1, 2), 2, 10).data())
            for one, other in self.sames(random):
                self.assertEqual(settle(one, other).kind, "same")
                try:
                    found = settle(placed(box, one), placed(box, other))
                except TooLarge:
                    continue
                self.assertEqual(found.kind, "same")
                asked += 1
        self.assertGreater(asked, 100)

    def test_machines_that_are_not_are_told_apart_by_one_press(self):
        random = Random(69)
        pairs = [
            [drawn_machine(random, random.randint(1, 4), buttons, answers) for _ in range(2)]
            for buttons in (1, 2, 4) for answers in (2, 3, 4) for _ in range(4)
        ]
        rings = [(ring(["1/2"] * many), ring(["1/2"] * (many - 1) + ["1/3"])) for many in (1, 2, 5, 12)]
        for one, other in pairs + rings + [coins(many) for many in (2, 3, 5, 8)]:
            found = settle(one, other)
            self.assertEqual(found.kind, "apart")
            box = telling(found.way)
            chances = [fraction(chance(placed(box, machine), ((0, 1),))) for machine in (one, other)]
            self.assertEqual(chances, [chance_of(one, found.way), chance_of(other, found.way)])
            self.assertNotEqual(*chances)
            self.assertEqual(settle(placed(box, one), placed(box, other)).way, ((0, 0),))


class Telling(Checks):
    def test_statement_by_statement(self):
        frame = "buttons 1 answers 2 var x 4 var y 2 start press set y 1 {}say y set x 0 set y 0"
        for way, uses in (
            ((), ""), (((0, 0),), "use x 0 set y * y = x 0 "), (((3, 2),), "use x 3 set y * y = x 2 "),
            (((0, 1), (2, 3), (0, 1)), "use x 0 set y * y = x 1 use x 2 set y * y = x 3 use x 0 set y * y = x 1 "),
        ):
            box = telling(way)
            self.assertIs(type(box), Box)
            self.assertEqual(box_text(box), frame.format(uses))
            self.assertTrue(box == read_around(frame.format(uses)))
        self.assertTrue(telling(()) == read_box(frame.format("")))

    def test_the_data(self):
        box = telling(((1, 2),))
        self.assertEqual((box.buttons, box.answers, box.variables, box.start), (1, 2, (("x", 4), ("y", 2)), ()))
        self.assertEqual(box.block, (
            ("set", "y", ("number", 1)), ("use", "x", ("number", 1)),
            ("set", "y", ("*", ("variable", "y"), ("=", ("variable", "x"), ("number", 2)))),
            ("say", ("variable", "y")), ("set", "x", ("number", 0)), ("set", "y", ("number", 0)),
        ))

    def test_ways_of_24_pairs_and_of_more(self):
        for many in (23, 24):
            way = ((1, 0),) * many
            self.assertTrue(read_around(box_text(telling(way))) == telling(way))
        self.assertEqual(len(telling(((0, 1),) * 30).block), 64)
        self.assertEqual(telling([(0, 1)]), telling(((0, 1),)))

    def test_the_chance_of_the_answer_1_is_that_of_the_way(self):
        random = Random(70)
        for buttons, answers in ((1, 2), (2, 2), (3, 3), (4, 4)):
            machine = drawn_machine(random, 3, buttons, answers)
            ways = [way for length in range(3) for way in all_ways(machine, length)]
            for way in random.sample(ways, min(len(ways), 20)):
                inside = placed(telling(way), machine)
                self.assertLessEqual(inside.states(), 3)
                self.assertEqual(fraction(chance(inside, ((0, 1),))), chance_of(machine, way))
                self.assertEqual(fraction(chance(inside, ((0, 0),))), 1 - chance_of(machine, way))

    def test_the_longest_way_of_settle(self):
        one, other = coins(24)
        way = settle(one, other).way
        self.assertEqual(len(way), 23)
        chances = [chance(placed(telling(way), machine), ((0, 1),)) for machine in (one, other)]
        self.assertEqual([fraction(c) for c in chances], [chance_of(one, way), chance_of(other, way)])
        self.assertFalse(chances[0] == chances[1])

    def test_a_large_machine(self):
        machine = drawn_machine(Random(71), 12, 2, 3)
        way = ((0, 1), (1, 2)) * 6
        self.assertEqual(fraction(chance(placed(telling(way), machine), ((0, 1),))), chance_of(machine, way))


class Unchanged(unittest.TestCase):
    def test_arguments_stay_as_they_were(self):
        box, machine, way = read_around(AROUND), coin_of([Fraction(1, 2), Fraction(1, 3)], [1, 2]), ((0, 1), (0, 0))
        before = written(machine)
        first, other = placed(box, machine), placed(telling(way), machine)
        self.assertEqual(written(machine), before)
        self.assertTrue(box == read_around(AROUND))
        self.assertTrue(placed(box, machine) == first)
        self.assertTrue(placed(telling(way), machine) == other)


if __name__ == "__main__":
    unittest.main()
