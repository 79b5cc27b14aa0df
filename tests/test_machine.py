"""Machines: what is one, what is none and why, and what a machine tells of itself."""

import unittest
from copy import deepcopy
from itertools import product

from examples import drawn_machines, even_machine, even_moves, even_start, ratios, written
from notesttells.errors import BadMachine, TestError
from notesttells.machine import Machine, begun, fit
from notesttells.ratio import Ratio

REASONS = ("states", "buttons", "answers", "rows", "start", "moves")


class Draft:
    """Weights in nested lists, of a machine with two states, buttons and answers, to be spoiled."""

    def __init__(self):
        self.start = even_start(2)
        self.moves = even_moves(2, 2, 2)

    def make(self):
        return Machine(self.start, self.moves)


def no_states(draft):
    draft.start = []


def many_states(draft):
    """11 more states, from which the first answer leads to the first state; what is wrong already stays so."""
    draft.start = draft.start + [Ratio(0)] * 11
    for parts in draft.moves:
        for answer, rows in enumerate(parts):
            for row in rows:
                row += [Ratio(0)] * 11
            rows += [[Ratio(1 if answer == 0 else 0)] + [Ratio(0)] * 12 for _ in range(11)]


def no_buttons(draft):
    draft.moves = []


def many_buttons(draft):
    draft.moves = draft.moves + deepcopy(draft.moves) + [deepcopy(draft.moves[0])]


def no_answers(draft):
    draft.moves = [[] for _ in draft.moves]


def never(draft):
    """The rows of an answer that is never given."""
    return [[Ratio(0)] * len(draft.start) for _ in draft.start]


def many_answers(draft):
    draft.moves = [parts + [never(draft), never(draft), never(draft)] for parts in draft.moves]


def more_answers_at_the_end(draft):
    draft.moves[-1].append(never(draft))


def less_answers_at_the_end(draft):
    given_up = draft.moves[-1].pop()
    for row, more in zip(draft.moves[-1][0], given_up):
        row[:] = [one + other for one, other in zip(row, more)]


def none_at_the_first_button(draft):
    draft.moves[0] = []


def none_at_the_last_button(draft):
    draft.moves[-1] = []


def no_rows(draft):
    draft.moves[-1][-1] = []


def row_missing(draft):
    draft.moves[-1][-1].pop()


def row_missing_at_first(draft):
    draft.moves[0][0].pop()


def row_more(draft):
    draft.moves[-1][-1].append([Ratio(0)] * len(draft.start))


def row_empty(draft):
    draft.moves[-1][-1][-1] = []


def row_short(draft):
    row = draft.moves[-1][-1][-1]
    weight = row.pop()
    row[0] = row[0] + weight


def row_short_at_first(draft):
    draft.moves[0][0][0].pop()


def row_long(draft):
    draft.moves[-1][-1][-1].append(Ratio(0))


def start_small(draft):
    draft.start[-1] = draft.start[-1] - Ratio(1, 100)


def start_large(draft):
    draft.start[0] = draft.start[0] + Ratio(1, 100)


def start_negative(draft):
    draft.start[0] = Ratio(-1)


def start_negative_with_sum_1(draft):
    draft.start[0] = draft.start[0] - Ratio(2)
    draft.start[-1] = draft.start[-1] + Ratio(2)


def moves_small(draft):
    draft.moves[-1][-1][-1][-1] = Ratio(0)


def moves_large(draft):
    draft.moves[0][0][0][0] = Ratio(1)


def moves_negative(draft):
    draft.moves[-1][0][-1][0] = Ratio(-1, 9)


def moves_negative_with_sum_1(draft):
    row = draft.moves[-1][-1][-1]
    row[-1] = row[-1] - Ratio(2)
    row[0] = row[0] + Ratio(2)


def moves_negative_with_sum_1_over_answers(draft):
    parts = draft.moves[0]
    parts[0][0][0] = parts[0][0][0] - Ratio(2)
    parts[-1][0][0] = parts[-1][0][0] + Ratio(2)


# Each spoils a draft so that its reason is due. Later reasons come first when several spoil one draft,
# because the earlier ones change the shapes that the later ones count on.
SPOILERS = {
    "states": (no_states, many_states),
    "buttons": (no_buttons, many_buttons),
    "answers": (
        no_answers, many_answers, more_answers_at_the_end, less_answers_at_the_end,
        none_at_the_first_button, none_at_the_last_button,
    ),
    "rows": (
        no_rows, row_missing, row_missing_at_first, row_more, row_empty, row_short, row_short_at_first, row_long,
    ),
    "start": (start_small, start_large, start_negative, start_negative_with_sum_1),
    "moves": (
        moves_small, moves_large, moves_negative, moves_negative_with_sum_1, moves_negative_with_sum_1_over_answers,
    ),
}


def spoiled(spoilers):
    """A draft that is spoiled by all of these, which stand in the order of their reasons."""
    draft = Draft()
    for spoil in reversed(spoilers):
        spoil(draft)
    return draft


class Reasons(unittest.TestCase):
    def assert_due(self, draft, what):
        with self.assertRaises(TestError) as caught:
            draft.make()
        self.assertIs(type(caught.exception), BadMachine)
        self.assertEqual(caught.exception.what, what)

    def test_the_draft_is_a_machine(self):
        self.assertEqual(Draft().make().states(), 2)

    def test_each_reason_by_itself(self):
        for what in REASONS:
            for spoil in SPOILERS[what]:
                with self.subTest(spoil=spoil.__name__):
                    self.assert_due(spoiled([spoil]), what)

    def test_each_reason_ahead_of_each_later_one(self):
        for place, what in enumerate(REASONS):
            for later in REASONS[place + 1:]:
                for pair in product(SPOILERS[what], SPOILERS[later]):
                    with self.subTest(pair=[spoil.__name__ for spoil in pair]):
                        self.assert_due(spoiled(pair), what)

    def test_each_reason_ahead_of_all_later_ones(self):
        for place, what in enumerate(REASONS):
            for last in (0, -1):
                spoilers = [SPOILERS[name][last] for name in REASONS[place:]]
                with self.subTest(what=what, last=last):
                    self.assert_due(spoiled(spoilers), what)

    def test_no_states_with_moves_that_fit_them(self):
        for moves in ([], [[[]]], [[[], []], [[], []]]):
            with self.assertRaises(BadMachine) as caught:
                Machine([], moves)
            self.assertEqual(caught.exception.what, "states")

    def test_the_reasons_for_tuples(self):
        for what in REASONS:
            for spoil in SPOILERS[what]:
                draft = spoiled([spoil])
                draft.start = tuple(draft.start)
                draft.moves = all_tuples(draft.moves)
                with self.subTest(spoil=spoil.__name__):
                    self.assert_due(draft, what)

    def test_rows_are_not_asked_where_the_number_of_answers_differs_at_the_first_button(self):
        draft = Draft()
        draft.moves[0].pop()
        self.assert_due(draft, "answers")

    def test_weights_of_the_start_that_are_no_lots(self):
        moves = even_moves(3, 1, 1)
        for text in ("0 0 0", "1 1 1", "1/3 1/3 1/4", "1/2 1/2 1/2", "-1/3 2/3 2/3", "0 -1 2", "2 -1 0", "-1 -1 3"):
            with self.assertRaises(BadMachine) as caught:
                Machine(ratios(text), moves)
            self.assertEqual(caught.exception.what, "start", text)

    def test_weights_of_each_move_are_asked(self):
        for button, answer, here, there in product(range(2), repeat=4):
            for wrong in ("0", "1/3", "1", "-1/4"):
                draft = Draft()
                draft.moves[button][answer][here][there] = ratios(wrong)[0]
                self.assert_due(draft, "moves")

    def test_two_states_do_not_make_up_for_each_other(self):
        moves = [[[ratios("1/2 1/4"), ratios("1/2 3/4")]]]
        with self.assertRaises(BadMachine) as caught:
            Machine(even_start(2), moves)
        self.assertEqual(caught.exception.what, "moves")


def all_tuples(value):
    """The nested lists as tuples throughout."""
    if isinstance(value, (list, tuple)):
        return tuple(all_tuples(item) for item in value)
    return value


def all_lists(value):
    if isinstance(value, (list, tuple)):
        return [all_lists(item) for item in value]
    return value


class Limits(unittest.TestCase):
    def test_each_number_up_to_its_limit(self):
        for states in range(1, 13):
            self.assertEqual(even_machine(states, 1, 2).states(), states)
        for buttons in range(1, 5):
            self.assertEqual(even_machine(2, buttons, 1).buttons(), buttons)
        for answers in range(1, 5):
            self.assertEqual(even_machine(2, 3, answers).answers(), answers)

    def test_all_limits_at_once(self):
        machine = even_machine(12, 4, 4)
        self.assertEqual((machine.states(), machine.buttons(), machine.answers()), (12, 4, 4))

    def test_one_more_is_none(self):
        for sizes, what in (((13, 4, 4), "states"), ((12, 5, 4), "buttons"), ((12, 4, 5), "answers")):
            with self.assertRaises(BadMachine) as caught:
                even_machine(*sizes)
            self.assertEqual(caught.exception.what, what)

    def test_different_numbers(self):
        machine = even_machine(3, 2, 4)
        self.assertEqual((machine.states(), machine.buttons(), machine.answers()), (3, 2, 4))
        self.assertEqual(len(machine.moves), 2)
        self.assertEqual(len(machine.moves[1]), 4)
        self.assertEqual(len(machine.moves[1][3]), 3)
        self.assertEqual(len(machine.moves[1][3][2]), 3)

    def test_weights_of_0_and_sums_over_the_answers(self):
        moves = [[[ratios("0 0"), ratios("1/4 1/4")], [ratios("0 1"), ratios("1/2 0")]]]
        machine = Machine(ratios("0 1"), moves)
        self.assertEqual(written(machine), (["0", "1"], [[[["0", "0"], ["1/4", "1/4"]], [["0", "1"], ["1/2", "0"]]]]))


class Copies(unittest.TestCase):
    def assert_tuples(self, value, depth):
        self.assertIs(type(value), tuple)
        for item in value:
            if depth == 1:
                self.assertIs(type(item), Ratio)
            else:
                self.assert_tuples(item, depth - 1)

    def shapes(self):
        """The same weights with lists and tuples in every place."""
        start, moves = even_start(2), even_moves(2, 2, 2)
        for kinds in product((list, tuple), repeat=5):
            yield kinds[0](start), kinds[1](
                kinds[2](kinds[3](kinds[4](row) for row in rows) for rows in parts) for parts in moves
            )

    def test_lists_and_tuples_in_every_place(self):
        for start, moves in self.shapes():
            machine = Machine(start, moves)
            self.assert_tuples(machine.start, 1)
            self.assert_tuples(machine.moves, 4)
            self.assertEqual(machine, even_machine(2, 2, 2))
            self.assertEqual(written(machine), written(even_machine(2, 2, 2)))

    def test_keywords(self):
        machine = Machine(moves=even_moves(2, 1, 1), start=even_start(2))
        self.assertEqual(machine, even_machine(2, 1, 1))

    def test_the_weights_are_the_ones_passed(self):
        start = ratios("1/3 2/3")
        moves = [
            [[ratios("1/2 0"), ratios("0 1/5")], [ratios("1/4 1/4"), ratios("3/5 1/5")]],
            [[ratios("0 1"), ratios("0 0")], [ratios("0 0"), ratios("2/6 4/6")]],
        ]
        machine = Machine(start, moves)
        self.assertEqual(written(machine), (
            ["1/3", "2/3"],
            [
                [[["1/2", "0"], ["0", "1/5"]], [["1/4", "1/4"], ["3/5", "1/5"]]],
                [[["0", "1"], ["0", "0"]], [["0", "0"], ["1/3", "2/3"]]],
            ],
        ))

    def test_what_was_passed_stays(self):
        start, moves = even_start(2), even_moves(2, 2, 2)
        start_before, moves_before = deepcopy(start), deepcopy(moves)
        Machine(start, moves)
        self.assertEqual(start, start_before)
        self.assertEqual(moves, moves_before)
        self.assertEqual(moves, all_lists(moves))

    def test_what_was_passed_stays_when_it_is_no_machine(self):
        for what in REASONS:
            for spoil in SPOILERS[what]:
                draft = spoiled([spoil])
                start, moves = deepcopy(draft.start), deepcopy(draft.moves)
                with self.assertRaises(BadMachine):
                    draft.make()
                self.assertEqual((draft.start, draft.moves), (start, moves))

    def test_changing_what_was_passed_changes_nothing(self):
        start, moves = even_start(2), even_moves(2, 2, 2)
        machine = Machine(start, moves)
        before = written(machine)
        start[0] = Ratio(7)
        start.append(Ratio(1))
        moves[0][0][0][0] = Ratio(7)
        moves[0][0][1].append(Ratio(7))
        moves[0][1].pop()
        moves[1].pop()
        moves.append([])
        self.assertEqual(written(machine), before)
        self.assertEqual((machine.states(), machine.buttons(), machine.answers()), (2, 2, 2))

    def test_lists_within_tuples_are_copied_too(self):
        row = ratios("1/2 1/2")
        machine = Machine(tuple(even_start(2)), (([row, row],),))
        row[0] = Ratio(5)
        self.assertEqual(written(machine)[1], [[[["1/2", "1/2"], ["1/2", "1/2"]]]])


class Equal(unittest.TestCase):
    def test_equal_weights(self):
        self.assertTrue(even_machine(3, 2, 2) == even_machine(3, 2, 2))
        self.assertFalse(even_machine(3, 2, 2) != even_machine(3, 2, 2))
        self.assertTrue(Machine([Ratio(3, 3)], [[[[Ratio(2, 2)]]]]) == even_machine(1, 1, 1))

    def test_another_start(self):
        one = Machine(ratios("1 0"), even_moves(2, 1, 1))
        other = Machine(ratios("0 1"), even_moves(2, 1, 1))
        self.assertFalse(one == other)
        self.assertTrue(one != other)

    def test_other_moves(self):
        one = Machine(ratios("1 0"), [[[ratios("1 0"), ratios("1 0")]]])
        other = Machine(ratios("1 0"), [[[ratios("1 0"), ratios("0 1")]]])
        self.assertFalse(one == other)
        self.assertTrue(one != other)

    def test_the_same_for_all_tests_but_not_equal(self):
        self.assertFalse(even_machine(1, 2, 2) == even_machine(2, 2, 2))

    def test_other_sizes(self):
        self.assertFalse(even_machine(2, 1, 1) == even_machine(2, 2, 1))
        self.assertFalse(even_machine(2, 1, 1) == even_machine(2, 1, 2))

    def test_against_the_weights(self):
        machines = drawn_machines(1, 12) + drawn_machines(1, 12)
        for one, other in product(machines, repeat=2):
            self.assertIs(one == other, written(one) == written(other))
            self.assertIs(one != other, written(one) != written(other))


class Fits(unittest.TestCase):
    def test_as_many_buttons_and_as_many_answers(self):
        sizes = list(product((1, 3), range(1, 5), range(1, 5)))
        machines = [even_machine(*size) for size in sizes]
        for (_, *one), machine in zip(sizes, machines):
            for (_, *other), other_machine in zip(sizes, machines):
                self.assertIs(fit(machine, other_machine), one == other)

    def test_arguments_stay(self):
        one, other = even_machine(2, 1, 2), even_machine(3, 2, 1)
        before = written(one), written(other)
        fit(one, other)
        self.assertEqual((written(one), written(other)), before)


class Begun(unittest.TestCase):
    def test_begins_in_the_state_for_sure(self):
        for machine in drawn_machines(2, 10) + [even_machine(12, 1, 1)]:
            before = written(machine)
            for state in range(machine.states()):
                found = begun(machine, state)
                self.assertIs(type(found), Machine)
                self.assertEqual(
                    written(found), (["1" if at == state else "0" for at in range(machine.states())], before[1])
                )
                self.assertIs(type(found.start), tuple)
                self.assertEqual(written(machine), before)

    def test_is_a_new_value_also_where_nothing_changes(self):
        machine = begun(even_machine(2, 1, 1), 1)
        found = begun(machine, 1)
        self.assertIsNot(found, machine)
        self.assertEqual(found, machine)


if __name__ == "__main__":
    unittest.main()
