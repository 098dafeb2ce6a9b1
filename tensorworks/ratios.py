"""Exact fractions: pairs of a numerator and a denominator in lowest terms."""

from math import gcd

from tensorworks.errors import TextError, ZeroDenominator
from tensorworks.numerals import read_integer

TEXT_LIMIT = 400


def fraction(numerator, denominator):
    """Return the fraction that equals numerator / denominator."""
    if denominator == 0:
        raise ZeroDenominator("the denominator is 0")
    divisor = gcd(numerator, denominator)
    if denominator < 0:
        divisor = -divisor
    return (numerator // divisor, denominator // divisor)


def plus(a, b):
    """Return the sum of two fractions."""
    return fraction(a[0] * b[1] + b[0] * a[1], a[1] * b[1])


def minus(a, b):
    """Return the difference of two fractions."""
    return fraction(a[0] * b[1] - b[0] * a[1], a[1] * b[1])


def times(a, b):
    """Return the product of two fractions."""
    return fraction(a[0] * b[0], a[1] * b[1])


def over(a, b):
    """Return the quotient of two fractions."""
    return fraction(a[0] * b[1], a[1] * b[0])


def compare(a, b):
    """Return -1, 0 or 1 if a is less than, equal to or greater than b."""
    difference = a[0] * b[1] - b[0] * a[1]
    if difference == 0:
        return 0
    return 1 if difference > 0 else -1


def magnitude(a):
    """Return the absolute value of a fraction."""
    return (abs(a[0]), a[1])


def whole(a):
    """Return the greatest integer that is at most a."""
    return a[0] // a[1]


def nearest(a):
    """Return the nearest integer, and of two the greater one."""
    return (2 * a[0] + a[1]) // (2 * a[1])


def write_fraction(a):
    """Return the text of a fraction."""
    numerator, denominator = a
    if denominator == 1:
        return str(numerator)
    return f"{numerator}/{denominator}"


def read_fraction(text):
    """Return the fraction that has the text."""
    if len(text) > TEXT_LIMIT:
        raise TextError("the text is too long")
    above, stroke, below = text.partition("/")
    numerator = read_integer(above, TEXT_LIMIT)
    denominator = read_integer(below, TEXT_LIMIT) if stroke else 1
    # Only lowest terms, a positive denominator and none of 1 are written so.
    if denominator < 1 or write_fraction(fraction(numerator, denominator)) != text:
        raise TextError("not the text of a fraction")
    return (numerator, denominator)
