"""The machines of boxes without `use`."""

import unittest
from fractions import Fraction
from random import Random

from examples import fraction
from notesttells.box import Box, read_box
from notesttells.errors import TooLarge
from notesttells.machine import Machine, chance
from notesttells.run import machine_of
from references import plain
from runs import REACHED_TOO_MANY, machine_by_draws
from texts import BOX, Drawn


def fractions(value):
    return [fractions(part) for part in value] if isinstance(value, list) else Fraction(value)


class Checks(unittest.TestCase):
    def assert_machine(self, text, start, moves):
        machine = machine_of(read_box(text))
        self.assertIs(type(machine), Machine)
        self.assertEqual(plain(machine), (fractions(start), fractions(moves)))

    def assert_too_large(self, text):
        with self.assertRaises(TooLarge) as caught:
            machine_of(read_box(text))
        self.assertEqual(caught.exception.what, "states")

    def assert_as_run(self, box):
        """Returns True if there are not too many states."""
        expected = machine_by_draws(box)
        if expected == REACHED_TOO_MANY:
            with self.assertRaises(TooLarge) as caught:
                machine_of(box)
            self.assertEqual(caught.exception.what, "states")
            return False
        self.assertEqual(plain(machine_of(box)), expected)
        return True


class Examples(Checks):
    def test_without_variables_and_statements(self):
        self.assert_machine("buttons 1 answers 1 start press", [1], [[[[1]]]])
        self.assert_machine("buttons 2 answers 3 start press", [1], [[[[1]], [[0]], [[0]]]] * 2)

    def test_without_variables(self):
        self.assert_machine(
            "buttons 3 answers 2 start if 1 end press say press", [1],
            [[[[1]], [[0]]], [[[0]], [[1]]], [[[1]], [[0]]]],
        )

    def test_a_coin_that_is_tossed(self):
        self.assert_machine(
            "buttons 1 answers 2 var x 6 start press draw x 3 say < x 1 set x 0", [1], [[[["2/3"]], [["1/3"]]]]
        )

    def test_a_coin_that_stays_as_it_fell(self):
        self.assert_machine(
            "buttons 2 answers 2 var x 2 start draw x 2 press if press draw x 2 end say x", ["1/2", "1/2"], [
                [[[1, 0], [0, 0]], [[0, 0], [0, 1]]],
                [[["1/2", 0], ["1/2", 0]], [[0, "1/2"], [0, "1/2"]]],
            ],
        )

    def test_a_counter(self):
        self.assert_machine(
            "buttons 1 answers 2 var x 3 start press say = x 2 set x + x 1", [1, 0, 0], [[
                [[0, 1, 0], [0, 0, 1], [0, 0, 0]], [[0, 0, 0], [0, 0, 0], [1, 0, 0]],
            ]],
        )

    def test_states_that_cannot_be_reached_are_left_out(self):
        # The values are 0 at the start, and then 3, 7 and 11.
        self.assert_machine(
            "buttons 1 answers 1 var x 12 start press if < x 11 set x + x 4 end if = x 4 set x 3 end", [1, 0, 0, 0],
            [[[[0, 1, 0, 0], [0, 0, 1, 0], [0, 0, 0, 1], [0, 0, 0, 1]]]],
        )

    def test_states_of_the_start_alone(self):
        self.assert_machine(
            "buttons 1 answers 2 var x 5 start draw x 3 set x + x 1 press say = x 2 set x 4",
            ["1/3", "1/3", "1/3", 0],
            [[
                [[0, 0, 0, 1], [0, 0, 0, 0], [0, 0, 0, 1], [0, 0, 0, 1]],
                [[0, 0, 0, 0], [0, 0, 0, 1], [0, 0, 0, 0], [0, 0, 0, 0]],
            ]],
        )

    def test_the_order_of_the_states(self):
        # The values of y and x, in the order of the text: (0, 1), (1, 0), (2, 0).
        self.assert_machine(
            "buttons 1 answers 4 var y 3 var x 3 start set x 1 press say + x * y 2 "
            "if x set x 0 set y 2 else if = y 2 set y 1 else set y 0 set x 1 end end",
            [1, 0, 0],
            [[
                [[0, 0, 0], [0, 0, 0], [0, 1, 0]], [[0, 0, 1], [0, 0, 0], [0, 0, 0]],
                [[0, 0, 0], [1, 0, 0], [0, 0, 0]], [[0, 0, 0], [0, 0, 0], [0, 0, 0]],
            ]],
        )

    def test_draws_on_one_side_of_an_if(self):
        self.assert_machine(
            "buttons 1 answers 4 var x 6 start press draw x 2 if x draw x 3 say + x 1 else draw x 5 if = x 4 say 1 end end"
            " set x 0", [1], [[[["2/5"]], [[Fraction(1, 10) + Fraction(1, 6)]], [["1/6"]], [["1/6"]]]],
        )

    def test_three_draws(self):
        machine = machine_of(read_box(
            "buttons 1 answers 4 var a 6 var b 6 var c 6 start press draw a 6 draw b 6 draw c 6 "
            "if < 15 + a + b c say 1 end if < + a + b c 1 say 2 end if = a + b 2 if = a c say 3 end end "
            "set a 0 set b 0 set c 0"
        ))
        self.assertEqual(machine.states(), 1)
        self.assertEqual(
            [str(chance(machine, ((0, answer),))) for answer in range(4)], ["211/216", "0", "1/216", "1/54"]
        )

    def test_each_press_begins_without_an_answer(self):
        self.assert_machine(
            "buttons 2 answers 2 var x 2 start press if press say 1 end", [1], [[[[1]], [[0]]], [[[0]], [[1]]]]
        )

    def test_the_last_say_counts(self):
        for statements, answer in (
            ("say 1 say 2", 2), ("say 2 say 1", 1), ("say 1 if 0 say 2 end", 1), ("say 1 if 1 say 2 end", 2),
            ("say 2 say 0", 0), ("if 0 say 1 end", 0), ("if 0 say 1 else say 2 end", 2), ("", 0),
            ("if 1 say 1 else say 2 end say 3", 3), ("say 1 set x 2 if x if 1 say 3 end end", 3), ("say x set x 1", 0),
        ):
            text = f"buttons 1 answers 4 var x 4 start press {statements} set x 0".replace("  ", " ")
            moves = [[[[int(given == answer)]] for given in range(4)]]
            self.assert_machine(text, [1], moves)


class Values(Checks):
    def assert_value(self, expression, value):
        """The expression has this value, and no other one."""
        for other in {value, value ^ 1, 0, 1, 65535}:
            machine = machine_of(read_box(f"buttons 1 answers 2 start press say = {other} {expression}"))
            self.assertEqual(fraction(chance(machine, ((0, 1),))), int(other == value), expression)

    def test_values(self):
        for expression, value in (
            ("0", 0), ("65535", 65535), ("+ 65535 1", 0), ("+ 65535 65535", 65534), ("+ 2 3", 5), ("+ 65534 1", 65535),
            ("* 256 256", 0), ("* 65535 65535", 1), ("* 255 257", 65535), ("* 0 65535", 0), ("* 300 300", 24464),
            ("- 5 3", 2), ("- 3 5", 0), ("- 0 65535", 0), ("- 65535 0", 65535), ("- 4 4", 0), ("- 0 1", 0),
            ("/ 7 2", 3), ("/ 7 0", 0), ("/ 0 0", 0), ("/ 0 7", 0), ("/ 65535 2", 32767), ("/ 6 7", 0), ("/ 65535 1", 65535),
            ("mod 7 2", 1), ("mod 7 0", 0), ("mod 0 0", 0), ("mod 65535 256", 255), ("mod 6 7", 6), ("mod 7 7", 0),
            ("< 1 2", 1), ("< 2 2", 0), ("< 3 2", 0), ("< 0 65535", 1), ("= 2 2", 1), ("= 2 3", 0), ("= 65535 65535", 1),
            ("- + 65535 2 1", 0), ("/ - 1 2 0", 0), ("mod * 256 256 0", 0), ("+ * 3 4 - 9 5", 16), ("- - 9 5 3", 1),
            ("- 9 - 5 3", 7), ("/ / 100 7 2", 7), ("/ 100 / 7 2", 33), ("= < 1 2 < 2 3", 1), ("< = 1 2 1", 1),
            ("+ * 255 257 1", 0), ("- 65535 + 65535 1", 65535), ("mod - 3 5 2", 0),
        ):
            self.assert_value(expression, value)

    def test_press_is_the_number_of_the_button(self):
        self.assert_machine(
            "buttons 4 answers 4 start press say press", [1],
            [[[[int(answer == button)]] for answer in range(4)] for button in range(4)],
        )

    def test_values_modulo_the_size(self):
        for size in range(1, 13):
            for value in (0, 1, 5, 11, 12, 13, 65535):
                machine = machine_of(read_box(
                    f"buttons 1 answers 2 var x {size} start set x {value} press say = x {value % size}"
                ))
                self.assertEqual(plain(machine), ([1], [[[[0]], [[1]]]]))

    def test_draws_modulo_the_size(self):
        self.assert_machine(
            "buttons 1 answers 4 var x 4 start draw x 6 press say x", ["1/3", "1/3", "1/6", "1/6"],
            [[[[int(here == there == answer) for there in range(4)] for here in range(4)] for answer in range(4)]],
        )
        self.assert_machine("buttons 1 answers 2 var x 1 start draw x 6 press say x", [1], [[[[1]], [[0]]]])
        self.assert_machine("buttons 1 answers 1 var x 12 start draw x 1 press", [1], [[[[1]]]])

    def test_answers_modulo_their_number(self):
        for answers in range(1, 5):
            for value in (0, 1, 3, 4, 5, 65535):
                self.assert_machine(
                    f"buttons 1 answers {answers} start press say {value}", [1],
                    [[[[int(answer == value % answers)]] for answer in range(answers)]],
                )

    def test_a_variable_is_set_by_its_own_value(self):
        self.assert_machine(
            "buttons 1 answers 4 var x 4 start set x 3 press set x * x x say x", [0, 1],
            [[[[0, 0], [0, 0]], [[1, 0], [1, 0]], [[0, 0], [0, 0]], [[0, 0], [0, 0]]]],
        )


class Sizes(Checks):
    def test_12_states_and_13(self):
        self.assertEqual(machine_of(read_box("buttons 1 answers 1 var x 12 start press set x + x 1")).states(), 12)
        count = "buttons 1 answers 1 var x {0} var y 2 start press if = x {1} set y 1 else set x + x 1 end"
        self.assertEqual(machine_of(read_box(count.format(11, 10))).states(), 12)
        self.assert_too_large(count.format(12, 11))

    def test_states_at_the_start(self):
        text = "buttons 1 answers 1 var x 6 var y 6 start draw x 6 draw y {} press set x 0 set y 0"
        self.assertEqual(machine_of(read_box(text.format(2))).states(), 12)
        self.assert_too_large(text.format(3))
        self.assert_too_large(text.format(6))

    def test_a_13th_state_that_only_one_button_reaches(self):
        text = "buttons 4 answers 1 var x 12 var y 2 start press if = press 3 if = x 11 set y 1 end end set x + x 1"
        self.assert_too_large(text)
        self.assertEqual(machine_of(read_box(text.replace("buttons 4", "buttons 3"))).states(), 12)

    def test_what_is_the_case_within_a_press_makes_no_states(self):
        machine = machine_of(read_box(
            "buttons 2 answers 4 var a 12 var b 12 var c 12 var d 12 start press draw a 6 draw b 6 draw c 6 "
            "set d * a + b c say d set a 0 set b 0 set c 0 set d 0"
        ))
        self.assertEqual(machine.states(), 1)


class Compared(Checks):
    def test_the_example(self):
        self.assert_as_run(read_box(BOX))

    def test_drawn_boxes(self):
        random = Random(64)
        counts = {True: 0, False: 0}
        for at in range(2000):
            data = Drawn(random, False, random.randint(0, 4), (2, 3, 4, 12)[at % 4], 20).data()
            counts[self.assert_as_run(Box(*data))] += 1
        self.assertGreater(counts[True], 1000)
        self.assertGreater(counts[False], 10)

    def test_boxes_of_lists(self):
        box = Box(1, 2, [["x", 3]], [["draw", "x", 2]], [["if", ["variable", "x"], [["say", ["press"]]], []]])
        self.assert_as_run(box)

    def test_the_box_stays_as_it_was(self):
        box, other = read_box(BOX), read_box(BOX)
        first = machine_of(box)
        self.assertTrue(box == other)
        self.assertTrue(machine_of(box) == first)


if __name__ == "__main__":
    unittest.main()
