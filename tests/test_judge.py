"""Whether what is found about two machines holds."""

import unittest
from fractions import Fraction
from itertools import permutations
from random import Random

from examples import all_ways, drawn_machine, drawn_machines, even_machine, ratios, written
from notesttells.ratio import Ratio
from notesttells.tell import Found, judge, settle
from references import (
    chance_of, coins, made_machine, made_ratio, numbers_of, plain_found, renamed, ring, split, with_unreached,
)


def fair():
    return made_machine([1], [[[["1/2"]], [["1/2"]]]])


def fair_of_two():
    return made_machine([1, 0], [[[[0, "1/2"], [0, "1/2"]], [["1/2", 0], ["1/2", 0]]]])


def same_pairs():
    """Pairs of machines that are the same for all tests."""
    random = Random(31)
    pairs = [(fair(), fair_of_two()), (fair_of_two(), fair()), (fair(), fair())]
    for _ in range(4):
        machine = drawn_machine(random, 2, 2, 2)
        pairs += [(machine, machine), (machine, renamed(machine, (1, 0))), (split(machine, 0, Fraction(1, 3)), machine)]
        pairs.append((machine, with_unreached(machine)))
    return pairs + [(ring(["1/2", "1/3"], 1), ring(["1/5", "1/7", "2/3"], 1))]


def parts_of(found):
    """The lists of what is found, to be changed."""
    return [list(row) for row in found.vectors], list(found.start), [list(row) for row in found.moves]


def found_of(vectors, start, moves):
    return Found("same", vectors, start, moves, None)


def shown_by(one, other, vectors):
    """What these vectors show about two machines, with numbers that are reckoned by themselves."""
    start, moves = numbers_of(one, other, vectors)
    return found_of(*[
        [[made_ratio(Fraction(n)) for n in row] for row in vectors], [made_ratio(n) for n in start],
        [[made_ratio(n) for n in row] for row in moves],
    ])


class Checks(unittest.TestCase):
    def assert_holds(self, one, other, found):
        self.assertIs(judge(one, other, found), True)

    def assert_fails(self, one, other, found):
        self.assertIs(judge(one, other, found), False)


class Same(Checks):
    def test_what_settle_tells(self):
        for one, other in same_pairs():
            self.assert_holds(one, other, settle(one, other))
            self.assert_holds(other, one, settle(other, one))
        for machine in drawn_machines(32, 20) + [even_machine(12, 4, 4)]:
            self.assert_holds(machine, machine, settle(machine, machine))

    def test_by_hand(self):
        vectors, start = [ratios("1 1 0"), ratios("1/2 0 1/2")], ratios("1 0")
        moves = [ratios("0 1"), ratios("1/2 0"), ratios("0 1/2"), ratios("1/4 0")]
        self.assert_holds(fair(), fair_of_two(), found_of(vectors, start, moves))
        self.assert_fails(fair(), fair_of_two(), found_of(vectors, start, moves[::-1]))

    def test_one_number_changed(self):
        for one, other in same_pairs():
            found = settle(one, other)
            for place in range(len(found.vectors) + 1 + len(found.moves)):
                for change in (Ratio(1), Ratio(-1, 9)):
                    vectors, start, moves = parts_of(found)
                    row = [*vectors, start, *moves][place]
                    for at in range(len(row)):
                        vectors, start, moves = parts_of(found)
                        row = [*vectors, start, *moves][place]
                        row[at] = row[at] + change
                        self.assert_fails(one, other, found_of(vectors, start, moves))

    def test_a_number_left_out_or_put_in(self):
        for one, other in same_pairs():
            found = settle(one, other)
            for place in range(len(found.vectors) + 1 + len(found.moves)):
                for change in ("out", "last out", "zero in", "zero ahead", "doubled", "all out"):
                    vectors, start, moves = parts_of(found)
                    row = [*vectors, start, *moves][place]
                    row[:] = {
                        "out": row[1:], "last out": row[:-1], "zero in": row + [Ratio(0)], "all out": [],
                        "zero ahead": [Ratio(0)] + row, "doubled": row[:1] + row,
                    }[change]
                    self.assert_fails(one, other, found_of(vectors, start, moves))

    def test_numbers_exchanged(self):
        for one, other in same_pairs():
            found = settle(one, other)
            for place in range(1 + len(found.moves)):
                vectors, start, moves = parts_of(found)
                row = [start, *moves][place]
                if len(row) > 1 and row[0] != row[-1]:
                    row[0], row[-1] = row[-1], row[0]
                    self.assert_fails(one, other, found_of(vectors, start, moves))

    def test_a_list_of_numbers_left_out_put_in_doubled_or_exchanged(self):
        for one, other in same_pairs():
            found = settle(one, other)
            vectors, start, moves = parts_of(found)
            zeros = [Ratio(0)] * len(vectors)
            for changed in (
                moves[1:], moves[:-1], [], moves + [zeros], [zeros] + moves, moves + moves[-1:], moves[:1] + moves,
            ):
                self.assert_fails(one, other, found_of(vectors, start, changed))
            for at in range(len(moves) - 1):
                if moves[at] != moves[at + 1]:
                    changed = moves[:at] + [moves[at + 1], moves[at]] + moves[at + 2:]
                    self.assert_fails(one, other, found_of(vectors, start, changed))

    def test_a_vector_left_out_put_in_doubled_or_exchanged(self):
        for one, other in same_pairs():
            found = settle(one, other)
            vectors, start, moves = parts_of(found)
            for at in range(len(vectors)):
                left_out = vectors[:at] + vectors[at + 1:]
                doubled = vectors[:at + 1] + vectors[at:]
                replaced = vectors[:at] + [vectors[at - 1]] + vectors[at + 1:]
                self.assert_fails(one, other, found_of(left_out, start, moves))
                self.assert_fails(one, other, found_of(doubled, start, moves))
                if len(vectors) > 1:
                    self.assert_fails(one, other, found_of(replaced, start, moves))
            self.assert_fails(one, other, found_of(vectors + [[Ratio(0)] * len(vectors[0])], start, moves))

    def test_a_vector_left_out_with_its_numbers(self):
        one, other = fair(), fair_of_two()
        vectors, start, moves = parts_of(settle(one, other))
        self.assert_fails(one, other, found_of(vectors[:1], start[:1], [row[:1] for row in moves[:2]]))
        self.assert_fails(one, other, found_of(vectors[1:], start[1:], [row[1:] for row in moves[2:]]))

    def test_vectors_in_another_order(self):
        for one, other in same_pairs():
            vectors, start, moves = parts_of(settle(one, other))
            for order in list(permutations(range(len(vectors))))[1:24]:
                self.assert_fails(one, other, found_of([vectors[at] for at in order], start, moves))

    def test_no_vectors(self):
        for one, other in same_pairs():
            _, start, moves = parts_of(settle(one, other))
            self.assert_fails(one, other, found_of([], [], []))
            self.assert_fails(one, other, found_of([], start, moves))
            self.assert_fails(one, other, found_of([], [], moves))
            self.assert_fails(one, other, found_of([], [], [[] for _ in moves]))

    def test_halves_of_a_vector_exchanged(self):
        vectors, start, moves = parts_of(settle(fair(), fair_of_two()))
        self.assert_fails(fair(), fair_of_two(), found_of([row[1:] + row[:1] for row in vectors], start, moves))
        self.assert_fails(fair_of_two(), fair(), found_of(vectors, start, moves))

    def test_vectors_that_are_not_even(self):
        # All sums are right with these vectors for any machines, but the vectors are not even.
        pairs = same_pairs() + [(fair(), made_machine([1], [[[["1/3"]], [["2/3"]]]])), coins(3)]
        for one, other in pairs:
            states = one.states() + other.states()
            single = [[Fraction(int(at == place)) for at in range(states)] for place in range(states)]
            self.assert_fails(one, other, shown_by(one, other, single))

    def test_a_vector_that_is_not_even_at_the_end(self):
        one, other = fair(), fair()
        vectors = [[Fraction(1), Fraction(1)], [Fraction(1), Fraction(0)]]
        self.assert_fails(one, other, shown_by(one, other, vectors))
        vectors = [[Fraction(1), Fraction(1)], [Fraction(0), Fraction(1)]]
        self.assert_fails(one, other, shown_by(one, other, vectors))

    def test_what_was_found_for_other_machines(self):
        pairs = same_pairs()
        unequal = [coins(2), coins(3), coins(4), (fair(), made_machine([1], [[[["1/3"]], [["2/3"]]]]))]
        founds = [settle(one, other) for one, other in pairs]
        for one, other in unequal:
            for found in founds:
                self.assert_fails(one, other, found)
            self.assert_fails(one, other, settle(one, one))
            self.assert_fails(one, other, settle(other, other))
        self.assert_fails(fair_of_two(), fair_of_two(), settle(fair(), fair_of_two()))
        self.assert_fails(fair(), fair_of_two(), settle(fair(), fair()))

    def test_the_start_is_asked(self):
        machine = made_machine([1, 0], [[[["1/2", 0], [0, "1/3"]], [["1/2", 0], [0, "2/3"]]]])
        other = made_machine([0, 1], [[[["1/2", 0], [0, "1/3"]], [["1/2", 0], [0, "2/3"]]]])
        self.assert_holds(machine, machine, settle(machine, machine))
        self.assert_fails(machine, other, settle(machine, machine))
        self.assert_fails(other, machine, settle(machine, machine))
        self.assert_fails(other, other, settle(machine, machine))


class OtherLists(Checks):
    def test_multiples_of_the_vectors(self):
        for one, other in same_pairs():
            vectors = plain_found(settle(one, other))[1]
            for times in (2, -1, Fraction(3, 7)):
                made = [[times * number for number in vector] for vector in vectors]
                self.assert_holds(one, other, shown_by(one, other, made))
                self.assert_holds(one, other, shown_by(one, other, made[:1] + vectors[1:]))

    def test_another_order_with_the_numbers_for_it(self):
        for one, other in same_pairs():
            vectors = plain_found(settle(one, other))[1]
            self.assert_holds(one, other, shown_by(one, other, vectors[::-1]))

    def test_sums_of_the_vectors(self):
        for one, other in same_pairs():
            vectors = plain_found(settle(one, other))[1]
            sums = [[sum(column) for column in zip(*vectors[:at + 1])] for at in range(len(vectors))]
            self.assert_holds(one, other, shown_by(one, other, sums))

    def test_a_vector_twice(self):
        machine = split(drawn_machine(Random(33), 2, 2, 2), 1, Fraction(1, 4))
        for one, other in ((machine, machine), (fair(), fair_of_two())):
            vectors = plain_found(settle(one, other))[1]
            self.assert_holds(one, other, shown_by(one, other, vectors + vectors[:1]))
            self.assert_holds(one, other, shown_by(one, other, vectors[:1] + vectors))

    def test_other_numbers_where_a_vector_stands_twice(self):
        vectors = [ratios("1 1"), ratios("1 1")]
        moves = [ratios(text) for text in ("1/2 0", "0 1/2", "1/4 1/4", "3/2 -1")]
        self.assert_holds(fair(), fair(), found_of(vectors, ratios("-1 2"), moves))
        self.assert_holds(fair(), fair(), found_of(vectors, ratios("1/3 2/3"), moves))
        self.assert_fails(fair(), fair(), found_of(vectors, ratios("1/3 1/3"), moves))
        self.assert_fails(fair(), fair(), found_of(vectors, ratios("1 0"), moves[:3] + [ratios("3/2 -1/2")]))

    def test_more_vectors_than_are_needed(self):
        one, other = fair_of_two(), fair_of_two()
        vectors = [[1, 0, 1, 0], [0, 1, 0, 1], [1, 0, 0, 1], [0, 1, 1, 0]]
        vectors = [[Fraction(number) for number in vector] for vector in vectors]
        self.assert_holds(one, other, shown_by(one, other, vectors))
        self.assert_holds(one, other, shown_by(one, other, vectors[:3]))

    def test_a_vector_of_zeros(self):
        found = found_of(
            [ratios("1 1"), ratios("0 0")], ratios("1 5"),
            [ratios("1/2 0"), ratios("1/2 1"), ratios("0 0"), ratios("0 -3")],
        )
        self.assert_holds(fair(), fair(), found)
        found.moves[3][0] = Ratio(1)
        self.assert_fails(fair(), fair(), found)

    def test_tuples(self):
        found = settle(fair(), fair_of_two())
        made = Found(
            "same", tuple(tuple(row) for row in found.vectors), tuple(found.start),
            tuple(tuple(row) for row in found.moves), None,
        )
        self.assert_holds(fair(), fair_of_two(), made)


class Apart(Checks):
    def apart(self, way):
        return Found("apart", [], [], [], way)

    def pairs(self):
        yield from [coins(2), coins(3), coins(5)]
        machines = drawn_machines(34, 30)
        for one in machines[:10]:
            for other in machines[10:]:
                if (one.buttons(), one.answers()) == (other.buttons(), other.answers()):
                    yield one, other

    def test_what_settle_tells(self):
        for one, other in self.pairs():
            self.assert_holds(one, other, settle(one, other))
            self.assert_holds(other, one, settle(other, one))
        for many in (12, 24):
            one, other = coins(many)
            self.assert_holds(one, other, settle(one, other))

    def test_ways_tell_machines_apart_exactly_by_their_chances(self):
        for one, other in self.pairs():
            for length in (0, 1, 2, 3):
                for way in all_ways(one, length)[:30]:
                    expected = chance_of(one, way) != chance_of(other, way)
                    self.assertIs(judge(one, other, self.apart(way)), expected)

    def test_longer_ways(self):
        one, other = coins(3)
        self.assert_fails(one, other, self.apart(((0, 0),)))
        for many in (2, 3, 7, 40):
            self.assert_holds(one, other, self.apart(((0, 0),) * many))
        self.assert_holds(one, other, self.apart(((0, 1), (0, 0), (0, 1))))

    def test_the_empty_way(self):
        for one, other in self.pairs():
            self.assert_fails(one, other, self.apart(()))

    def test_no_way(self):
        self.assert_fails(*coins(2), self.apart(None))
        self.assert_fails(fair(), fair(), self.apart(None))

    def test_machines_that_are_the_same(self):
        for one, other in same_pairs():
            for length in (0, 1, 2):
                for way in all_ways(one, length):
                    self.assert_fails(one, other, self.apart(way))

    def test_buttons_and_answers_that_there_are_not(self):
        one, other = coins(2)
        self.assert_holds(one, other, self.apart(((0, 0),)))
        self.assert_holds(one, other, self.apart(((0, 1),)))
        for step in ((1, 0), (0, 2), (-1, 0), (0, -1), (-1, -1), (0, -2), (7, 7), (0, 100), (-2, 0), (0, -3)):
            for way in ((step,), ((0, 0), step), (step, (0, 0)), ((0, 0), (0, 1), step, (0, 1))):
                self.assert_fails(one, other, self.apart(way))

    def test_buttons_and_answers_are_not_exchanged(self):
        one = made_machine([1], [[[[1]]], [[[1]]], [[[1]]]])
        self.assert_fails(one, one, self.apart(((0, 2),)))
        one = made_machine([1], [[[["1/3"]], [["1/3"]], [["1/3"]]]])
        other = made_machine([1], [[[["1/3"]], [["1/6"]], [["1/2"]]]])
        self.assert_holds(one, other, self.apart(((0, 2),)))
        self.assert_fails(one, other, self.apart(((2, 0),)))
        self.assert_fails(one, other, self.apart(((0, 3),)))

    def test_what_was_found_for_other_machines(self):
        one, other = coins(4)
        self.assert_holds(one, other, settle(one, other))
        self.assert_fails(*coins(6), settle(one, other))
        self.assert_fails(one, one, settle(one, other))
        self.assert_fails(fair(), fair_of_two(), settle(one, other))


class Values(Checks):
    def test_nothing_is_changed(self):
        for one, other in same_pairs() + [coins(2), coins(3)]:
            found = settle(one, other)
            before = written(one), written(other), plain_found(found)
            self.assertIs(judge(one, other, found), True)
            self.assertIs(judge(one, other, found), True)
            self.assertEqual((written(one), written(other), plain_found(found)), before)
            self.assertEqual(settle(one, other), found)

    def test_large_machines(self):
        random = Random(35)
        machine = drawn_machine(random, 11, 4, 4)
        other = split(renamed(machine, range(10, -1, -1)), 3, Fraction(2, 5))
        found = settle(machine, other)
        self.assert_holds(machine, other, found)
        found.moves[-1][-1] = found.moves[-1][-1] + Ratio(1, 10 ** 40)
        self.assert_fails(machine, other, found)


if __name__ == "__main__":
    unittest.main()
