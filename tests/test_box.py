"""Boxes as values, and the texts that write them."""

import unittest
from itertools import product
from random import Random

from notesttells.box import Box, box_text, read_around, read_box
from texts import AROUND, BOX, Drawn, written_box


def parts():
    """The parts of a surrounding in lists, with each kind of statement and of expression."""
    number, variable = ["number", 7], ["variable", "x"]
    return 2, 3, [["x", 4], ["y", 2]], [["set", "x", number], ["draw", "y", 2], ["use", "x", variable]], [
        ["if", ["<", ["press"], number], [["say", ["mod", variable, number]]], [["set", "y", ["+", number, number]]]],
        ["if", ["=", variable, ["-", number, ["press"]]], [], []],
        ["say", ["*", variable, ["/", number, number]]],
    ]


def with_tuples(value):
    return tuple(with_tuples(part) for part in value) if isinstance(value, list) else value


TEXT = (
    "buttons 2 answers 3 var x 4 var y 2 start set x 7 draw y 2 use x x"
    " press if < press 7 say mod x 7 else set y + 7 7 end if = x - 7 press end say * x / 7 7"
)


class Checks(unittest.TestCase):
    def assert_fields(self, box, *data):
        found = (box.buttons, box.answers, box.variables, box.start, box.block)
        self.assertEqual(found, tuple(with_tuples(part) for part in data))
        for part in found[2:]:
            self.assertIs(type(part), tuple)
            self.assert_tuples(part)

    def assert_tuples(self, value):
        self.assertIn(type(value), (tuple, str, int))
        if isinstance(value, tuple):
            for part in value:
                self.assert_tuples(part)


class Fields(Checks):
    def test_lists_and_tuples(self):
        lists = parts()
        tuples = [with_tuples(part) for part in lists]
        for kinds in product((lists, tuples), repeat=3):
            box = Box(2, 3, *[kind[at] for at, kind in zip((2, 3, 4), kinds)])
            self.assert_fields(box, *lists)
            self.assertTrue(box == Box(*tuples))

    def test_keywords(self):
        buttons, answers, variables, start, block = parts()
        box = Box(block=block, start=start, variables=variables, answers=answers, buttons=buttons)
        self.assert_fields(box, *parts())

    def test_nothing(self):
        self.assert_fields(Box(1, 1, [], [], []), 1, 1, [], [], [])
        self.assert_fields(Box(4, 1, (), (), ()), 4, 1, [], [], [])

    def test_copies(self):
        made = parts()
        box = Box(*made)
        made[2][0][1] = 9
        made[2].append(["z", 1])
        made[3][0][2][1] = 8
        made[3].clear()
        made[4][0][2].append(["say", ["press"]])
        made[4][0][1][1] = ["number", 0]
        made[4].pop()
        self.assert_fields(box, *parts())

    def test_what_was_passed_stays_as_it_was(self):
        made = parts()
        box = Box(*made)
        box_text(box)
        self.assertEqual(made, parts())


class Equality(unittest.TestCase):
    def test_equal(self):
        self.assertTrue(Box(*parts()) == Box(*parts()))
        self.assertFalse(Box(*parts()) != Box(*parts()))

    def test_each_field_counts(self):
        other = (1, 2, [["x", 4]], [["set", "x", ["number", 7]]], [])
        for at in range(5):
            changed = list(parts())
            changed[at] = other[at]
            self.assertFalse(Box(*parts()) == Box(*changed))
            self.assertTrue(Box(*parts()) != Box(*changed))

    def test_each_place_counts(self):
        texts = [
            TEXT, TEXT.replace("x 4", "x 5"), TEXT.replace("draw y 2", "draw y 3"), TEXT.replace("mod", "+"),
            TEXT.replace("use x x", "use x y"), TEXT.replace("else set y + 7 7 ", ""), TEXT.replace("- 7", "- 8"),
            TEXT + " say 0", TEXT.replace(" start", " var z 1 start"), TEXT.replace("if < press 7", "if < 7 press"),
        ]
        boxes = [read_around(text) for text in texts]
        for at, box in enumerate(boxes):
            for place, other in enumerate(boxes):
                self.assertIs(box == other, at == place)

    def test_other_things(self):
        box = Box(1, 1, [], [], [])
        for other in (None, 1, "buttons 1 answers 1 start press", (1, 1, (), (), ())):
            self.assertFalse(box == other)
            self.assertTrue(box != other)


class Texts(Checks):
    def test_each_statement_and_expression(self):
        self.assertEqual(box_text(Box(*parts())), TEXT)
        self.assertIs(type(box_text(Box(*parts()))), str)
        self.assert_fields(read_around(TEXT), *parts())

    def test_the_smallest_ones(self):
        self.assertEqual(box_text(Box(1, 1, [], [], [])), "buttons 1 answers 1 start press")
        self.assertEqual(box_text(Box(4, 3, [("a", 12)], [], [])), "buttons 4 answers 3 var a 12 start press")
        self.assertEqual(box_text(Box(1, 2, [], [], [("say", ("press",))])), "buttons 1 answers 2 start press say press")

    def test_ifs_with_and_without_else(self):
        zero, say = ("number", 0), ("say", ("number", 1))
        for statement, text in (
            (("if", zero, (), ()), "if 0 end"), (("if", zero, (say,), ()), "if 0 say 1 end"),
            (("if", zero, (), (say,)), "if 0 else say 1 end"), (("if", zero, (say,), (say, say)), "if 0 say 1 else say 1 say 1 end"),
            (("if", zero, (("if", zero, (), (say,)),), ()), "if 0 if 0 else say 1 end end"),
            (("if", zero, (), (("if", zero, (say,), ()),)), "if 0 else if 0 say 1 end end"),
        ):
            text = "buttons 1 answers 1 start press " + text
            self.assertEqual(box_text(Box(1, 1, (), (), (statement,))), text)
            self.assert_fields(read_box(text), 1, 1, [], [], [statement])

    def test_what_is_read_is_written_again(self):
        self.assertEqual(box_text(read_box(BOX)), BOX)
        self.assertEqual(box_text(read_around(BOX)), BOX)
        self.assertEqual(box_text(read_around(AROUND)), AROUND)
        self.assertEqual(read_box(BOX), read_around(BOX))

    def test_what_is_written_is_read_again(self):
        random = Random(61)
        for at in range(200):
            around = at % 2 == 0
            data = Drawn(random, around).data()
            text = written_box(*data)
            box = Box(*data)
            self.assertEqual(box_text(box), text)
            found = read_around(text) if around else read_box(text)
            self.assertIs(type(found), Box)
            self.assert_fields(found, *data)
            self.assertTrue(found == box)

    def test_somewhat_beyond_the_bounds(self):
        number = ("number", 70000)
        for _ in range(8):
            number = ("+", number, ("number", 1))
        block = [("draw", "x", 7)] * 5 + [("set", "longername", number)]
        for _ in range(7):
            block = [("if", ("press",), block, [])]
        box = Box(5, 6, [("x", 13), ("longername", 100)], [], block)
        self.assertEqual(box_text(box), written_box(5, 6, box.variables, (), box.block))


if __name__ == "__main__":
    unittest.main()
