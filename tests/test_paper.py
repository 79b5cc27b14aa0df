"""The papers of what is found about two machines."""

import unittest
from fractions import Fraction
from random import Random

from examples import drawn_machine, even_machine, ratio, ratios
from notesttells.errors import BadPaper, TestError
from notesttells.paper import paper_lines, read_paper
from notesttells.ratio import Ratio
from notesttells.tell import Found, judge, settle
from papers import first_wrong_line, spoiled_lines
from references import coins, made_machine, plain_found, renamed, ring, split, with_unreached

HALF = Fraction(1, 2)


def fair():
    return made_machine([1], [[[["1/2"]], [["1/2"]]]])


def third():
    return made_machine([1], [[[["1/3"]], [["2/3"]]]])


def found_pairs():
    """Pairs of machines of several sizes, the same ones and others."""
    random = Random(81)
    pairs = [(fair(), fair()), (fair(), third()), coins(4), (ring(["1/2", "1/3"], 1), ring(["1/5", "1/7"], 1))]
    for buttons, answers in ((1, 2), (2, 1), (2, 2), (3, 2)):
        one, other = [drawn_machine(random, random.randint(1, 3), buttons, answers) for _ in range(2)]
        pairs += [(one, other), (one, renamed(one, range(one.states())[::-1])), (one, with_unreached(one))]
        pairs += [(split(other, 0, HALF), other)]
    return pairs


def wrong_line(one, other, lines):
    """The `at` of the BadPaper for lines, or None if they are read."""
    try:
        found = read_paper(one, other, lines)
    except BadPaper as error:
        return error.at
    assert type(found) is Found
    return None


class Checks(unittest.TestCase):
    def assert_wrong(self, one, other, lines, at):
        with self.assertRaises(TestError) as caught:
            read_paper(one, other, lines)
        self.assertIs(type(caught.exception), BadPaper)
        self.assertIs(type(caught.exception.at), int)
        self.assertEqual(caught.exception.at, at, lines)

    def assert_same_pair(self, lines, at):
        """The lines about twice the fair coin are wrong at this one, or right for None."""
        if at is None:
            self.assertIsNone(wrong_line(fair(), fair(), lines))
        else:
            self.assert_wrong(fair(), fair(), lines, at)


class Written(Checks):
    def test_apart(self):
        for way, lines in (
            ((), ["apart"]), (((0, 1),), ["apart", "0 1"]), (((3, 0), (0, 2), (3, 0)), ["apart", "3 0", "0 2", "3 0"]),
        ):
            found = paper_lines(Found("apart", [], [], [], way))
            self.assertIs(type(found), list)
            self.assertEqual(found, lines)
        self.assertEqual(paper_lines(settle(fair(), third())), ["apart", "0 0"])

    def test_same(self):
        self.assertEqual(paper_lines(settle(fair(), fair())), ["same 1", "1 1", "1", "1/2", "1/2"])
        vectors, start, moves = [ratios("1 0 -1/2"), ratios("2 3 5/7")], ratios("-4 0"), [
            ratios("1 2"), ratios("0 -1/3"), ratios("7/2 0"), ratios("0 0"),
        ]
        self.assertEqual(
            paper_lines(Found("same", vectors, start, moves, None)),
            ["same 2", "1 0 -1/2", "2 3 5/7", "-4 0", "1 2", "0 -1/3", "7/2 0", "0 0"],
        )

    def test_long_fractions_are_written(self):
        for digits in (60, 61, 1000, 4000, 4400):
            top, bottom = 10 ** digits - 1, 10 ** (digits - 1)
            nines, tens = "9" * digits, "1" + "0" * (digits - 1)
            rows = [[Ratio(top, bottom), Ratio(-bottom, top)]]
            lines = paper_lines(Found("same", rows, [Ratio(top)], [[Ratio(-top)], [Ratio(1, top)]], None))
            self.assertEqual(lines, ["same 1", f"{nines}/{tens} -{tens}/{nines}", nines, f"-{nines}", f"1/{nines}"])

    def test_what_is_found_stays_as_it_was(self):
        for one, other in found_pairs()[:6]:
            found = settle(one, other)
            before = plain_found(found)
            lines = paper_lines(found)
            lines.append("x")
            self.assertEqual(plain_found(found), before)
            self.assertEqual(paper_lines(found), lines[:-1])


class Read(Checks):
    def test_what_settle_tells(self):
        kinds = []
        for one, other in found_pairs():
            found = settle(one, other)
            lines = paper_lines(found)
            before = list(lines)
            again = read_paper(one, other, lines)
            self.assertEqual(lines, before)
            self.assertTrue(again == found)
            self.assertEqual(plain_found(again), plain_found(found))
            self.assertIs(judge(one, other, again), True)
            self.assertEqual(paper_lines(again), lines)
            self.assertTrue(read_paper(one, other, tuple(lines)) == found)
            kinds.append(found.kind)
        self.assertEqual(set(kinds), {"same", "apart"})

    def test_the_kinds_of_the_values(self):
        found = read_paper(fair(), fair(), ["same 1", "1 1", "1", "1/2", "1/2"])
        self.assertEqual((found.kind, found.way), ("same", None))
        for row in (found.vectors, found.start, found.moves, *found.vectors, *found.moves):
            self.assertIs(type(row), list)
        self.assertTrue(found == Found("same", [ratios("1 1")], ratios("1"), [ratios("1/2"), ratios("1/2")], None))
        found = read_paper(fair(), fair(), ["apart", "0 1", "0 0"])
        self.assertTrue(found == Found("apart", [], [], [], ((0, 1), (0, 0))))
        self.assertEqual((found.vectors, found.start, found.moves), ([], [], []))
        self.assertEqual([type(part) for part in (found.way, *found.way)], [tuple] * 3)

    def test_whether_it_holds_is_not_asked(self):
        self.assertEqual(read_paper(fair(), fair(), ["apart"]).way, ())
        self.assertEqual(read_paper(fair(), fair(), ["apart", "0 1"]).way, ((0, 1),))
        found = read_paper(fair(), fair(), ["same 1", "-3 1/7", "0", "5", "-1/2"])
        self.assertEqual([str(number) for number in found.vectors[0] + found.start], ["-3", "1/7", "0"])
        self.assertEqual([[str(number) for number in row] for row in found.moves], [["5"], ["-1/2"]])
        self.assertIs(judge(fair(), fair(), found), False)

    def test_ways_of_any_length(self):
        for many in (0, 1, 24, 100):
            self.assertEqual(read_paper(fair(), fair(), ["apart"] + ["0 1"] * many).way, ((0, 1),) * many)


class Heads(Checks):
    def test_no_lines(self):
        self.assert_same_pair([], 0)
        self.assert_same_pair((), 0)

    def test_other_first_lines(self):
        for head in (
            "", "same", "same ", "same 0", "same 25", "same 01", "same -1", "same 1 ", " same 1", "same  1", "same 1 1",
            "same x", "same 1/1", "same 100", "Same 1", "apart ", " apart", "apart 0", "apart\n", "Apart", "sameapart",
            "0 0", "1 1", "same +1", "same 1\n", "same\t1", "1 same", "same 00", "same " + "1" * 5000,
        ):
            self.assert_same_pair([head, "1 1", "1", "1/2", "1/2"], 0)
            self.assert_same_pair([head], 0)

    def test_from_1_to_24_vectors(self):
        for many in (1, 2, 10, 23, 24):
            row = " ".join(["0"] * many)
            lines = [f"same {many}"] + ["1/2 -3"] * many + [row] * (1 + many * 2)
            self.assert_same_pair(lines, None)
            self.assert_same_pair(lines[:-1], len(lines) - 1)
            self.assert_same_pair(lines + [row], len(lines))
        row = " ".join(["0"] * 25)
        self.assert_same_pair(["same 25"] + ["1/2 -3"] * 25 + [row] * 51, 0)
        self.assert_same_pair(["same 0"], 0)
        self.assert_same_pair(["same 0", ""], 0)


class Fractions(Checks):
    def test_fractions(self):
        for word in (
            "0", "1", "-1", "10", "1/2", "-1/2", "12/35", "7/2", "-100/3", "9" * 60, "-" + "9" * 60, "1/" + "9" * 60,
            "9" * 60 + "/" + "1" + "0" * 59, "-" + "9" * 60 + "/1" + "0" * 59,
        ):
            self.assert_same_pair(["same 1", f"{word} 1", "1", "1/2", "1/2"], None)
            self.assert_same_pair(["same 1", "1 1", "1", "1/2", word], None)
            found = read_paper(fair(), fair(), ["same 1", f"1 {word}", word, "0", word])
            self.assertTrue(found.vectors[0][1] == found.start[0] == found.moves[1][0] == ratio(word))

    def test_other_words(self):
        for word in (
            "", "-", "/", "+1", "-0", "00", "01", "-01", "1/1", "2/4", "0/1", "0/5", "-0/5", "1/0", "0/0", "3/1", "6/3", "1/-2",
            "-1/-2", "1/+2", "--1", "1-", "1/", "/2", "1/02", "01/2", "1/2/3", "1.5", "1e3", "x", "1/x", "x/2", "1_0", "\t1",
            "1\n", "0x1", "1//2", "- 1", "1 / 2", "1" + "0" * 60, "-1" + "0" * 60, "1/1" + "0" * 60, "9" * 61,
            "1" + "0" * 60 + "/3", "3/" + "1" + "0" * 60, "9" * 5000, "1/" + "9" * 5000, "2" + "0" * 60 + "/4" + "0" * 60,
        ):
            self.assert_same_pair(["same 1", f"{word} 1", "1", "1/2", "1/2"], 1)
            self.assert_same_pair(["same 1", f"1 {word}", "1", "1/2", "1/2"], 1)
            self.assert_same_pair(["same 1", "1 1", word, "1/2", "1/2"], 2)
            self.assert_same_pair(["same 1", "1 1", "1", word, "1/2"], 3)
            self.assert_same_pair(["same 1", "1 1", "1", "1/2", word], 4)

    def test_what_is_too_long_is_written_but_not_read(self):
        for digits, at in ((60, None), (61, 4), (4000, 4)):
            found = Found("same", [ratios("1 1")], ratios("1"), [ratios("1"), [Ratio(1, 10 ** digits - 1)]], None)
            self.assert_same_pair(paper_lines(found), at)


class Lines(Checks):
    def test_missing_lines(self):
        lines = ["same 1", "1 1", "1", "1/2", "1/2"]
        for many in range(len(lines)):
            self.assert_same_pair(lines[:many], many)
        self.assert_same_pair(lines, None)

    def test_lines_that_are_there_are_asked_first(self):
        self.assert_same_pair(["same 2", "1 1", "x"], 2)
        self.assert_same_pair(["same 2", "1 1", "1"], 2)
        self.assert_same_pair(["same 2", "1 1", "1 1"], 3)
        self.assert_same_pair(["same 24", ""], 1)

    def test_lines_behind_the_end(self):
        lines = ["same 1", "1 1", "1", "1/2", "1/2"]
        for line in ("", "1/2", "1 1", "apart", "x"):
            self.assert_same_pair(lines + [line], 5)
            self.assert_same_pair(lines + [line, line], 5)

    def test_the_first_wrong_line_counts(self):
        self.assert_same_pair(["same 1", "1 1", "1 1", "x", "x", "x"], 2)
        self.assert_same_pair(["same 1", "1", "x"], 1)
        self.assert_same_pair(["apart", "0 0", "0", "x"], 2)

    def test_buttons_and_answers_that_there_are_not(self):
        for buttons in range(1, 5):
            for answers in range(1, 5):
                machine = even_machine(1, buttons, answers)
                for button in range(6):
                    for answer in range(6):
                        lines = ["apart", "0 0", f"{button} {answer}", "0 0"]
                        at = wrong_line(machine, machine, lines)
                        self.assertEqual(at, None if button < buttons and answer < answers else 2)

    def test_other_pairs(self):
        machine = even_machine(1, 4, 4)
        for line in ("", "0", "0 ", " 0 0", "0  0", "0 0 0", "00 0", "0 01", "-0 0", "0 -1", "x 0", "0 x", "0,0", "0\t0", "+1 0",
                     "0 0\n", "0 0 ", "1/1 0", "10 0", "apart", "0 " + "1" * 5000):
            self.assert_wrong(machine, machine, ["apart", line], 1)
            self.assert_wrong(machine, machine, ["apart", "3 3", line, "0 0"], 2)

    def test_the_sizes_of_the_machines_count(self):
        one, other = ring(["1/2", "1/2"]), fair()
        lines = ["same 1", "1 1 1", "1", "1/2", "1/2"]
        self.assertIsNone(wrong_line(one, other, lines))
        self.assertIsNone(wrong_line(other, one, lines))
        self.assert_wrong(one, one, lines, 1)
        self.assert_wrong(other, other, lines, 1)
        lines = ["same 1", "1 1", "1"] + ["1"] * 6
        for buttons, answers, at in ((2, 3, None), (3, 2, None), (1, 3, 6), (2, 2, 7), (2, 4, 9), (4, 4, 9)):
            machine = even_machine(1, buttons, answers)
            self.assertEqual(wrong_line(machine, machine, lines), at)


class Spoiled(Checks):
    def test_each_place(self):
        random = Random(82)
        one = drawn_machine(random, 2, 1, 2)
        pairs = [
            (fair(), fair()), (fair(), third()), coins(5), (ring(["1/2"], 1), ring(["1/5", "1/7"], 1)),
            (one, renamed(one, (1, 0))), (even_machine(1, 2, 2), split(even_machine(1, 2, 2), 0, HALF)),
        ]
        asked = 0
        for one, other in pairs:
            lines = paper_lines(settle(one, other))
            self.assertIsNone(first_wrong_line(one, other, lines))
            for changed in spoiled_lines(lines):
                before = list(changed)
                expected = first_wrong_line(one, other, changed)
                self.assertEqual(wrong_line(one, other, changed), expected, changed)
                self.assertEqual(changed, before)
                asked += 1
        self.assertGreater(asked, 2000)


if __name__ == "__main__":
    unittest.main()
