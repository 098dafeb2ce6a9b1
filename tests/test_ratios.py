"""Points 101 to 103: fractions and their texts."""

import unittest
from fractions import Fraction
from math import floor

from tensorworks.errors import TextError, ZeroDenominator
from tensorworks.ratios import (
    compare, fraction, magnitude, minus, nearest, over, plus, read_fraction, times, whole, write_fraction,
)
from tests.helpers import error_of

SOME = [fraction(a, b) for a in (-7, -5, -3, -1, 0, 1, 2, 5, 9, 3 ** 80) for b in (1, 2, 3, 4, 6, 7 ** 60)]


def pair(exact):
    return (exact.numerator, exact.denominator)


class Arithmetic(unittest.TestCase):
    def test_fraction(self):
        self.assertEqual(fraction(6, -4), (-3, 2))
        self.assertEqual(fraction(-6, -4), (3, 2))
        self.assertEqual(fraction(0, -9), (0, 1))
        self.assertEqual(fraction(10 ** 80, 10 ** 79), (10, 1))
        self.assertIs(error_of(fraction, 5, 0), ZeroDenominator)
        self.assertIs(error_of(fraction, 0, 0), ZeroDenominator)

    def test_exact(self):
        for a in SOME:
            for b in SOME:
                x, y = Fraction(*a), Fraction(*b)
                self.assertEqual(plus(a, b), pair(x + y))
                self.assertEqual(minus(a, b), pair(x - y))
                self.assertEqual(times(a, b), pair(x * y))
                self.assertEqual(compare(a, b), (x > y) - (x < y))
                if y:
                    self.assertEqual(over(a, b), pair(x / y))

    def test_over_zero(self):
        self.assertIs(error_of(over, (1, 2), (0, 1)), ZeroDenominator)
        self.assertEqual(over((1, 2), (-1, 3)), (-3, 2))

    def test_one_number(self):
        for a in SOME:
            x = Fraction(*a)
            self.assertEqual(magnitude(a), pair(abs(x)))
            self.assertEqual(whole(a), floor(x))
            self.assertEqual(nearest(a), floor(x + Fraction(1, 2)))

    def test_halves(self):
        self.assertEqual([nearest((n, 2)) for n in (-5, -3, -1, 1, 3, 5)], [-2, -1, 0, 1, 2, 3])


class Texts(unittest.TestCase):
    def test_write(self):
        self.assertEqual(write_fraction((-3, 2)), "-3/2")
        self.assertEqual(write_fraction((3, 1)), "3")
        self.assertEqual(write_fraction((0, 1)), "0")

    def test_both_ways(self):
        for a in SOME:
            self.assertEqual(read_fraction(write_fraction(a)), a)

    def test_length(self):
        for text in ("1" * 400, "-" + "9" * 399, "2/" + "3" * 398, "1" * 199 + "/1" + "0" * 199):
            self.assertEqual(len(text), 400)
            self.assertEqual(write_fraction(read_fraction(text)), text)
        for text in ("1" * 401, "-" + "9" * 400, "2/" + "3" * 399, "1" * 5000):
            self.assertIs(error_of(read_fraction, text), TextError)

    def test_other_texts(self):
        wrong = (
            "", "/", "1/", "/2", "4/2", "2/4", "3/1", "0/1", "0/5", "1/0", "1/-2", "-0", "+1", "01", "1/02", "--1",
            " 1", "1 ", "1 /2", "1/2\n", "1/2/3", "1.5", "1_0", "x", "-", "-/2", "1/+2", "\u0663", "1/\u0663", "\u00b2",
        )
        for text in wrong:
            self.assertIs(error_of(read_fraction, text), TextError, text)
