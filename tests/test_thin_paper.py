"""The papers of thinnings."""

import unittest
from fractions import Fraction
from random import Random

from examples import drawn_machine, even_machine, ratio, ratios
from notesttells.errors import BadPaper, TestError
from notesttells.paper import read_thin, thin_lines
from notesttells.ratio import Ratio
from notesttells.thin import Thinning, thin, thin_holds
from papers import first_wrong_thin_line, spoiled_lines
from references import renamed, ring, split, with_mixtures_used


def machines():
    """Machines of which some states are taken out, and others of which none is."""
    random = Random(83)
    found = [even_machine(1, 1, 1), even_machine(4, 2, 2), ring(["1/2", "1/3", "1/4"] * 4), ring(["1/2", "1/3"])]
    for _ in range(4):
        machine = drawn_machine(random, 2, 2, 2)
        mixed = with_mixtures_used(machine, [["1/3", "2/3"], ["1/2", "1/4", "1/4"]])
        found += [mixed, renamed(mixed, (3, 1, 0, 2)), split(machine, 0, Fraction(1, 3))]
    return found


def texts(thinning):
    return thinning.kept, [(state, tuple(str(lot) for lot in lots)) for state, lots in thinning.lots]


def wrong_line(machine, lines):
    """The `at` of the BadPaper for lines, or None if they are read."""
    try:
        found = read_thin(machine, lines)
    except BadPaper as error:
        return error.at
    assert type(found) is Thinning
    return None


FIVE = even_machine(5, 1, 2)
LINES = ["1 3", "0 1/2 1/2", "2 1 0", "4 1/3 2/3"]


class Checks(unittest.TestCase):
    def assert_wrong(self, lines, at, machine=FIVE):
        with self.assertRaises(TestError) as caught:
            read_thin(machine, lines)
        self.assertIs(type(caught.exception), BadPaper)
        self.assertIs(type(caught.exception.at), int)
        self.assertEqual(caught.exception.at, at, lines)


class Written(Checks):
    def test_lines(self):
        for thinning, lines in (
            (Thinning((0,), []), ["0"]), (Thinning((0, 1, 10), []), ["0 1 10"]),
            (Thinning((1, 3), [(0, ratios("1/2 1/2")), (2, ratios("1 0")), (4, ratios("1/3 2/3"))]), LINES),
            (Thinning([1], [(0, ratios("1"))]), ["1", "0 1"]),
        ):
            found = thin_lines(thinning)
            self.assertIs(type(found), list)
            self.assertEqual(found, lines)

    def test_long_fractions_are_written(self):
        for digits in (60, 61, 4000, 4400):
            lots = [Ratio(1, 10 ** digits - 1), Ratio(10 ** digits - 2, 10 ** digits - 1)]
            nines = "9" * digits
            lines = ["0 1", f"2 1/{nines} {nines[:-1]}8/{nines}"]
            self.assertEqual(thin_lines(Thinning((0, 1), [(2, lots)])), lines)
            expected = None if digits == 60 else 1
            self.assertEqual(wrong_line(even_machine(3, 1, 1), lines), expected)

    def test_the_thinning_stays_as_it_was(self):
        thinning = thin(machines()[4])
        before = texts(thinning)
        thin_lines(thinning).append("x")
        self.assertEqual(texts(thinning), before)
        self.assertEqual(thin_lines(thinning), thin_lines(thinning))


class Read(Checks):
    def test_what_thin_tells(self):
        taken_out = 0
        for machine in machines():
            thinning = thin(machine)
            lines = thin_lines(thinning)
            before = list(lines)
            found = read_thin(machine, lines)
            self.assertEqual(lines, before)
            self.assertTrue(found == thinning)
            self.assertEqual(texts(found), texts(thinning))
            self.assertIs(thin_holds(machine, found), True)
            self.assertEqual(thin_lines(found), lines)
            self.assertTrue(read_thin(machine, tuple(lines)) == thinning)
            taken_out += len(thinning.lots)
        self.assertGreater(taken_out, 10)

    def test_the_kinds_of_the_values(self):
        found = read_thin(FIVE, LINES)
        self.assertIs(type(found), Thinning)
        self.assertEqual(texts(found), (
            (1, 3), [(0, ("1/2", "1/2")), (2, ("1", "0")), (4, ("1/3", "2/3"))],
        ))
        self.assertEqual((type(found.kept), type(found.lots)), (tuple, list))
        for pair in found.lots:
            self.assertEqual((type(pair), type(pair[1]), type(pair[1][0])), (tuple, tuple, Ratio))

    def test_whether_they_are_mixtures_is_not_asked(self):
        machine = ring(["1/2", "1/3", "1/4"])
        found = read_thin(machine, ["0 1", "2 1/2 1/2"])
        self.assertEqual(texts(found), ((0, 1), [(2, ("1/2", "1/2"))]))
        self.assertIs(thin_holds(machine, found), False)

    def test_all_states_are_kept(self):
        self.assertEqual(texts(read_thin(FIVE, ["0 1 2 3 4"])), ((0, 1, 2, 3, 4), []))
        self.assertEqual(texts(read_thin(even_machine(12, 1, 1), ["0 1 2 3 4 5 6 7 8 9 10 11"])), (tuple(range(12)), []))

    def test_one_state_is_kept(self):
        for state in range(5):
            lines = [str(state)] + [f"{other} 1" for other in range(5) if other != state]
            self.assertIsNone(wrong_line(FIVE, lines))
            self.assert_wrong(lines[:-1], 4)


class FirstLines(Checks):
    def test_no_lines(self):
        self.assert_wrong([], 0)
        self.assert_wrong((), 0)

    def test_kept_states(self):
        for line in (
            "", " ", "3 1", "1 1", "1 3 3", "1 5", "5", "1 12", "-1 3", "-0", "01 3", "1 03", "+1", "1  3", " 1 3", "1 3 ", "x", "1 x",
            "1\t3", "1 3\n", "1/1 3", "1,3", "0 1 2 3 4 5", "4 3 2 1 0", "1 " + "3" * 5000,
        ):
            self.assert_wrong([line] + LINES[1:], 0)
            self.assert_wrong([line], 0)

    def test_states_of_two_digits(self):
        machine = even_machine(12, 1, 1)
        for line, at in (("9 10 11", 1), ("10 9", 0), ("11 12", 0), ("1 10 2", 0), ("2 10", 1), ("011", 0)):
            self.assert_wrong([line], at, machine)


class OtherLines(Checks):
    def test_missing_lines(self):
        for many in range(len(LINES)):
            self.assert_wrong(LINES[:many], many)
        self.assertIsNone(wrong_line(FIVE, LINES))

    def test_lines_behind_the_end(self):
        for line in ("", "4 1/3 2/3", "5 1 0", "1 1 0", "x"):
            self.assert_wrong(LINES + [line], 4)
            self.assert_wrong(LINES + [line] * 2, 4)
        self.assert_wrong(["0 1 2 3 4", ""], 1)

    def test_each_state_has_its_place(self):
        self.assert_wrong([LINES[0], LINES[2], LINES[1], LINES[3]], 1)
        self.assert_wrong([LINES[0], LINES[1], LINES[3]], 2)
        self.assert_wrong([LINES[0], LINES[1], LINES[1], LINES[2], LINES[3]], 2)
        self.assert_wrong([LINES[0], "1 1 0"] + LINES[1:], 1)
        for state in ("1", "3", "5", "x", "02", "-2", "+2", "", "4", "0", "2/1"):
            self.assert_wrong(LINES[:2] + [f"{state} 1 0"] + LINES[3:], 2)

    def test_lots(self):
        for lots, fits in (
            ("1/2 1/2", True), ("0 1", True), ("1 0", True), ("1/3 2/3", True), ("1/2 1/3", False), ("-1 2", False),
            ("3/2 -1/2", False), ("1", False), ("1/2 1/4 1/4", False), ("", False), ("1 -0", False), ("2/4 1/2", False),
            ("1/1 0", False), ("1 00", False), ("1  0", False), ("1 0 ", False), (" 1 0", False), ("0/1 1", False), ("x 1", False),
            ("0 0", False), ("1 1", False), ("+1 0", False), ("1 0\n", False), ("1\t0", False), ("0.5 0.5", False),
        ):
            for at in (1, 2, 3):
                lines = list(LINES)
                lines[at] = f"{lines[at][0]} {lots}"
                if fits:
                    self.assertIsNone(wrong_line(FIVE, lines))
                else:
                    self.assert_wrong(lines, at)

    def test_digits(self):
        machine = even_machine(3, 1, 1)
        for digits, at in ((59, None), (60, None), (61, 1)):
            bottom = 10 ** digits - 1
            for lots in ([1, bottom - 1], [bottom - 1, 1]):
                line = "2 " + " ".join(f"{lot}/{bottom}" for lot in lots)
                self.assertEqual(wrong_line(machine, ["0 1", line]), at)
                if at is None:
                    self.assertEqual(read_thin(machine, ["0 1", line]).lots[0][1][0], ratio(f"{lots[0]}/{bottom}"))

    def test_lines_that_are_there_are_asked_first(self):
        self.assert_wrong(["1 3", "0 1/2 1/2", "x"], 2)
        self.assert_wrong(["1 3", ""], 1)
        self.assert_wrong(["1 3", "0 1/2 1/2", "2 1 0", "x", "x", "x"], 3)


class Spoiled(Checks):
    def test_each_place(self):
        asked = 0
        papers = [(FIVE, LINES)] + [(machine, thin_lines(thin(machine))) for machine in machines()]
        for machine, lines in papers:
            self.assertIsNone(first_wrong_thin_line(machine, lines))
            for changed in spoiled_lines(lines, ["0", "1", "1/2", "-1", "3", ""]):
                before = list(changed)
                expected = first_wrong_thin_line(machine, changed)
                self.assertEqual(wrong_line(machine, changed), expected, changed)
                self.assertEqual(changed, before)
                asked += 1
        self.assertGreater(asked, 2000)


if __name__ == "__main__":
    unittest.main()
