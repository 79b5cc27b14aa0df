"""What is found, as a value: its fields, its copies, and when two are equal."""

import unittest
from itertools import product

from examples import ratio, ratios
from notesttells.ratio import Ratio
from notesttells.tell import Found


def parts():
    """The parts of something that might be found, in lists."""
    return (
        "same", [ratios("1 1"), ratios("1/2 1/2")], ratios("1 0"), [ratios("0 1"), ratios("1/4 0")], None,
    )


def texts(value):
    """Nested lists and tuples with texts for the fractions."""
    if isinstance(value, (list, tuple)):
        return type(value)(texts(item) for item in value)
    return str(value) if isinstance(value, Ratio) else value


class Fields(unittest.TestCase):
    def assert_fields(self, found, kind, vectors, start, moves, way):
        self.assertEqual(found.kind, kind)
        self.assertEqual(texts(found.vectors), vectors)
        self.assertEqual(texts(found.start), start)
        self.assertEqual(texts(found.moves), moves)
        self.assertEqual(found.way, way)
        self.assertIs(type(found.vectors), list)
        self.assertIs(type(found.start), list)
        self.assertIs(type(found.moves), list)
        for row in found.vectors + found.moves:
            self.assertIs(type(row), list)

    def assert_is_the_one_of_parts(self, found):
        self.assert_fields(found, "same", [["1", "1"], ["1/2", "1/2"]], ["1", "0"], [["0", "1"], ["1/4", "0"]], None)

    def test_same(self):
        self.assert_is_the_one_of_parts(Found(*parts()))

    def test_apart(self):
        way = ((0, 1), (1, 0))
        self.assert_fields(Found("apart", [], [], [], way), "apart", [], [], [], way)
        self.assert_fields(Found("apart", (), (), (), way), "apart", [], [], [], way)
        self.assert_fields(Found("apart", [], [], [], ()), "apart", [], [], [], ())

    def test_keywords(self):
        _, vectors, start, moves, _ = parts()
        self.assert_is_the_one_of_parts(Found(way=None, moves=moves, start=start, vectors=vectors, kind="same"))

    def test_tuples_in_every_place(self):
        _, vectors, start, moves, _ = parts()
        for kinds in product((list, tuple), repeat=5):
            found = Found(
                "same", kinds[0](kinds[1](row) for row in vectors), kinds[2](start),
                kinds[3](kinds[4](row) for row in moves), None,
            )
            self.assert_is_the_one_of_parts(found)
            self.assertTrue(found == Found(*parts()))

    def test_the_way_is_a_tuple_of_pairs(self):
        found = Found("apart", [], [], [], ((0, 1), (2, 3)))
        self.assertIs(type(found.way), tuple)
        self.assertEqual([type(step) for step in found.way], [tuple, tuple])


class Copies(unittest.TestCase):
    def test_changing_what_was_passed_changes_nothing(self):
        kind, vectors, start, moves, way = parts()
        found = Found(kind, vectors, start, moves, way)
        vectors[0][0] = Ratio(7)
        vectors[1].append(Ratio(7))
        vectors.append([])
        start[0] = Ratio(7)
        start.pop()
        moves[0].clear()
        moves[1][1] = Ratio(7)
        moves.pop()
        self.assertTrue(found == Found(*parts()))
        self.assertEqual(texts(found.vectors), [["1", "1"], ["1/2", "1/2"]])
        self.assertEqual(texts(found.start), ["1", "0"])
        self.assertEqual(texts(found.moves), [["0", "1"], ["1/4", "0"]])

    def test_changing_what_was_made_changes_nothing_that_was_passed(self):
        kind, vectors, start, moves, way = parts()
        found = Found(kind, vectors, start, moves, way)
        found.vectors[0][0] = Ratio(7)
        found.vectors.pop()
        found.start.clear()
        found.moves[1].append(Ratio(7))
        found.moves.append([])
        self.assertEqual((kind, vectors, start, moves, way), parts())

    def test_two_of_the_same_lists_share_none(self):
        passed = parts()
        one, other = Found(*passed), Found(*passed)
        one.vectors[0][0] = Ratio(7)
        one.start[0] = Ratio(7)
        one.moves[0][0] = Ratio(7)
        self.assertTrue(other == Found(*parts()))

    def test_what_was_passed_stays(self):
        passed = parts()
        Found(*passed)
        self.assertEqual(texts(passed), texts(parts()))


class Equal(unittest.TestCase):
    def others(self):
        """Parts of which each differs from those of parts() in one way."""
        kind, vectors, start, moves, _ = parts()
        return [
            ("apart", vectors, start, moves, None),
            (kind, [vectors[0], ratios("1/2 1/3")], start, moves, None),
            (kind, [ratios("2 1"), vectors[1]], start, moves, None),
            (kind, vectors[:1], start, moves, None),
            (kind, vectors + [ratios("0 0")], start, moves, None),
            (kind, vectors[::-1], start, moves, None),
            (kind, [vectors[0] + [ratio("0")], vectors[1]], start, moves, None),
            (kind, vectors, ratios("1 1"), moves, None),
            (kind, vectors, start[:1], moves, None),
            (kind, vectors, [], moves, None),
            (kind, vectors, start, [moves[0], ratios("1/4 1")], None),
            (kind, vectors, start, moves[::-1], None),
            (kind, vectors, start, moves[:1], None),
            (kind, vectors, start, [moves[0], moves[1][:1]], None),
            (kind, vectors, start, moves, ()),
            (kind, vectors, start, moves, ((0, 0),)),
        ]

    def test_equal_parts(self):
        self.assertIs(Found(*parts()) == Found(*parts()), True)
        self.assertIs(Found(*parts()) != Found(*parts()), False)
        one, other = Found("apart", [], [], [], ((0, 1),)), Found("apart", (), (), (), ((0, 1),))
        self.assertIs(one == other, True)

    def test_each_part_counts(self):
        for other in self.others():
            with self.subTest(other=texts(other)):
                self.assertIs(Found(*parts()) == Found(*other), False)
                self.assertIs(Found(*other) == Found(*parts()), False)
                self.assertIs(Found(*parts()) != Found(*other), True)
                self.assertIs(Found(*other) == Found(*other), True)

    def test_nothing_else_is_equal(self):
        found = Found(*parts())
        for other in (None, "same", 1, (), found.vectors, found.start, found.kind, Ratio(1)):
            self.assertIs(found == other, False)
            self.assertIs(found != other, True)

    def test_ways_count(self):
        ways = [(), ((0, 0),), ((0, 1),), ((1, 0),), ((0, 0), (0, 0)), ((0, 0), (0, 1)), ((0, 1), (0, 0)), None]
        for one, other in product(ways, repeat=2):
            found = Found("apart", [], [], [], one), Found("apart", [], [], [], other)
            self.assertIs(found[0] == found[1], one == other)

    def test_fractions_count_by_their_values(self):
        one = Found("same", [[Ratio(2, 4)]], [Ratio(1)], [[Ratio(3, 3)]], None)
        other = Found("same", [[Ratio(1, 2)]], [Ratio(5, 5)], [[Ratio(1)]], None)
        self.assertTrue(one == other)


if __name__ == "__main__":
    unittest.main()
