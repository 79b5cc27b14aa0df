"""Fractions, against Python's own ones."""

import unittest
from fractions import Fraction
from itertools import product
from random import Random

from examples import fraction, ratio, ratios
from notesttells.errors import BadRatio
from notesttells.ratio import Ratio, are_lots, total

SMALL = [(num, den) for num in range(-6, 7) for den in range(1, 7)]


def large_parts():
    random = Random(5)
    return [
        (random.randint(-10 ** 80, 10 ** 80), random.randint(1, 10 ** random.choice((1, 40, 90))))
        for _ in range(40)
    ]


class Parts(unittest.TestCase):
    def assert_is(self, found, expected):
        """The found one is a Ratio in lowest terms that is the expected Fraction."""
        self.assertIsInstance(found, Ratio)
        self.assertEqual((found.num, found.den), (expected.numerator, expected.denominator))
        self.assertIs(type(found.num), int)
        self.assertIs(type(found.den), int)

    def test_lowest_terms(self):
        for num, den in SMALL + large_parts():
            with self.subTest(num=num, den=den):
                self.assert_is(Ratio(num, den), Fraction(num, den))

    def test_hand_made(self):
        self.assert_is(Ratio(6, 4), Fraction(3, 2))
        self.assert_is(Ratio(-6, 4), Fraction(-3, 2))
        self.assert_is(Ratio(8, 4), Fraction(2))

    def test_zero_has_the_denominator_1(self):
        for den in (1, 2, 10 ** 50):
            found = Ratio(0, den)
            self.assertEqual((found.num, found.den), (0, 1))

    def test_denominator_is_1_if_not_told(self):
        for num in (-3, 0, 5, 10 ** 70):
            found = Ratio(num)
            self.assertEqual((found.num, found.den), (num, 1))

    def test_keywords(self):
        self.assert_is(Ratio(num=4, den=6), Fraction(2, 3))
        self.assert_is(Ratio(den=6, num=-4), Fraction(-2, 3))
        self.assert_is(Ratio(3, den=9), Fraction(1, 3))
        self.assert_is(Ratio(num=3), Fraction(3))

    def test_denominator_that_is_not_positive(self):
        for num, den in product((-2, 0, 1, 10 ** 60), (0, -1, -2, -10 ** 60)):
            with self.subTest(num=num, den=den):
                with self.assertRaises(BadRatio):
                    Ratio(num, den)
        with self.assertRaises(BadRatio):
            Ratio(num=1, den=0)


class Sums(Parts):
    def pairs(self):
        parts = [(-5, 3), (-1, 1), (-1, 6), (0, 1), (1, 6), (1, 3), (1, 2), (2, 3), (1, 1), (7, 4)]
        return list(product(parts, repeat=2)) + list(zip(large_parts(), reversed(large_parts())))

    def each(self):
        for (num, den), (other_num, other_den) in self.pairs():
            with self.subTest(one=(num, den), other=(other_num, other_den)):
                yield (
                    Ratio(num, den), Ratio(other_num, other_den),
                    Fraction(num, den), Fraction(other_num, other_den),
                )

    def test_sums(self):
        for one, other, plain, other_plain in self.each():
            self.assert_is(one + other, plain + other_plain)

    def test_differences(self):
        for one, other, plain, other_plain in self.each():
            self.assert_is(one - other, plain - other_plain)

    def test_products(self):
        for one, other, plain, other_plain in self.each():
            self.assert_is(one * other, plain * other_plain)

    def test_quotients(self):
        for one, other, plain, other_plain in self.each():
            if other_plain != 0:
                self.assert_is(one.by(other), plain / other_plain)

    def test_equal(self):
        for one, other, plain, other_plain in self.each():
            self.assertIs(one == other, plain == other_plain)
            self.assertIs(one != other, plain != other_plain)

    def test_less(self):
        for one, other, plain, other_plain in self.each():
            self.assertIs(one.less(other), plain < other_plain)

    def test_hand_made_sums(self):
        half, third = Ratio(1, 2), Ratio(1, 3)
        self.assert_is(half + third, Fraction(5, 6))
        self.assert_is(third - half, Fraction(-1, 6))
        self.assert_is(half - half, Fraction(0))
        self.assert_is(half * Ratio(-2), Fraction(-1))
        self.assert_is(half.by(third), Fraction(3, 2))
        self.assert_is(half.by(Ratio(-1, 3)), Fraction(-3, 2))
        self.assert_is(Ratio(-1, 2).by(Ratio(-1, 3)), Fraction(3, 2))
        self.assert_is(Ratio(0).by(Ratio(-7)), Fraction(0))

    def test_equal_in_lowest_terms(self):
        self.assertTrue(Ratio(2, 4) == Ratio(1, 2))
        self.assertTrue(Ratio(0, 5) == Ratio(0))
        self.assertFalse(Ratio(1, 2) == Ratio(-1, 2))
        self.assertFalse(Ratio(1, 2) == Ratio(1, 3))
        self.assertFalse(Ratio(1, 2) == Ratio(3, 2))

    def test_less_is_strict(self):
        self.assertIs(Ratio(1, 3).less(Ratio(2, 6)), False)
        self.assertIs(Ratio(-1, 2).less(Ratio(-1, 3)), True)
        self.assertIs(Ratio(-1, 3).less(Ratio(-1, 2)), False)
        close = 10 ** 60
        self.assertIs(Ratio(close, close + 1).less(Ratio(close + 1, close + 2)), True)

    def test_quotient_by_0(self):
        for num, den in SMALL:
            with self.assertRaises(BadRatio):
                Ratio(num, den).by(Ratio(0))
        with self.assertRaises(BadRatio):
            Ratio(1).by(Ratio(0, 3))

    def test_what_was_asked_is_unchanged(self):
        one, other = Ratio(-3, 4), Ratio(5, 6)
        for found in (one + other, one - other, one * other, one.by(other), one == other, one.less(other), str(one)):
            self.assertIsNot(found, one)
            self.assertIsNot(found, other)
            self.assertEqual((one.num, one.den, other.num, other.den), (-3, 4, 5, 6))
        with self.assertRaises(BadRatio):
            one.by(Ratio(0))
        self.assertEqual((one.num, one.den), (-3, 4))

    def test_neutral_ones_give_new_values(self):
        one = Ratio(2, 3)
        for found in (one + Ratio(0), Ratio(0) + one, one - Ratio(0), one * Ratio(1), one.by(Ratio(1))):
            self.assertIsNot(found, one)
            self.assert_is(found, Fraction(2, 3))


class Texts(unittest.TestCase):
    def test_against_pythons_fractions(self):
        for num, den in SMALL + large_parts():
            with self.subTest(num=num, den=den):
                self.assertEqual(str(Ratio(num, den)), str(Fraction(num, den)))

    def test_hand_made(self):
        self.assertEqual(str(Ratio(6, 4)), "3/2")
        self.assertEqual(str(Ratio(-6, 4)), "-3/2")
        self.assertEqual(str(Ratio(4, 2)), "2")
        self.assertEqual(str(Ratio(-4, 2)), "-2")
        self.assertEqual(str(Ratio(0, 9)), "0")

    def test_around_the_parts_of_long_numbers(self):
        for digits in (63, 64, 65, 127, 128, 129):
            for away in (-1, 0, 1):
                num = 10 ** digits + away
                self.assertEqual(str(Ratio(num)), str(num))
                self.assertEqual(str(Ratio(-num)), str(-num))
                self.assertEqual(str(Ratio(1, num)), "1/" + str(num))

    def test_more_digits_than_python_writes_at_once(self):
        self.assertEqual(str(Ratio(10 ** 5000)), "1" + "0" * 5000)
        self.assertEqual(str(Ratio(-7, 10 ** 5000)), "-7/1" + "0" * 5000)
        self.assertEqual(str(Ratio(10 ** 6000 // 9)), "1" * 6000)
        self.assertEqual(str(Ratio(-10 ** 5000)), "-1" + "0" * 5000)


class Lots(unittest.TestCase):
    def test_total(self):
        self.assertEqual(fraction(total([])), 0)
        self.assertEqual(fraction(total(ratios("1/2 1/3 -1/6 0"))), Fraction(2, 3))
        weights = tuple(ratios("1/2 1/3"))
        total(weights)
        self.assertEqual([str(weight) for weight in weights], ["1/2", "1/3"])

    def test_are_lots(self):
        for text in ("1", "1 0", "1/2 1/2", "0 1/3 2/3", "1/6 1/3 1/2"):
            self.assertIs(are_lots(ratios(text)), True, text)
        for text in ("", "0", "2", "1/2", "1/2 1/3", "1/2 2/3", "-1", "-1/2 3/2", "3/2 -1/2", "1 1 -1"):
            self.assertIs(are_lots(ratios(text)), False, text)

    def test_texts_of_examples(self):
        self.assertEqual(str(ratio("-4/6")), "-2/3")


if __name__ == "__main__":
    unittest.main()
