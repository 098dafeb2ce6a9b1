"""Points 104 to 107: shapes, broadcasting and row-major order."""

import unittest
from itertools import product

from tensorworks.errors import AxisError, RangeError, RankError, TooLarge
from tensorworks.shapes import (
    COUNT_LIMIT, RANK_LIMIT, SIZE_LIMIT, broadcast, check_shape, count_of, indexes, letters_of, offset,
)
from tests.helpers import error_of, shape


class Valid(unittest.TestCase):
    def test_limits(self):
        self.assertEqual((RANK_LIMIT, SIZE_LIMIT, COUNT_LIMIT), (4, 16, 256))

    def test_valid(self):
        for axes in ((), shape("a1z1"), (("i", 16), ("j", 16)), shape("i4j4k4m4"), (("q", 16),)):
            self.assertIsNone(check_shape(axes))

    def test_each_error(self):
        self.assertIs(error_of(check_shape, shape("a1b1c1d1e1")), RankError)
        self.assertIs(error_of(check_shape, shape("a1b1a1")), AxisError)
        self.assertIs(error_of(check_shape, shape("a0")), RangeError)
        self.assertIs(error_of(check_shape, (("a", 17),)), RangeError)
        self.assertIs(error_of(check_shape, (("a", -1),)), RangeError)
        self.assertIs(error_of(check_shape, (("a", 10 ** 70),)), RangeError)
        self.assertIs(error_of(check_shape, (("i", 16), ("j", 16), ("k", 2))), TooLarge)
        self.assertIs(error_of(check_shape, (("i", 1), ("j", 16), ("k", 9), ("m", 2))), TooLarge)

    def test_order_of_errors(self):
        self.assertIs(error_of(check_shape, shape("a0a1c1d1e1")), RankError)
        self.assertIs(error_of(check_shape, shape("a0a0")), AxisError)
        self.assertIs(error_of(check_shape, (("i", 17), ("j", 16), ("k", 16))), RangeError)

    def test_count_and_letters(self):
        self.assertEqual(count_of(()), 1)
        self.assertEqual(count_of(shape("i2k3")), 6)
        self.assertEqual(count_of((("i", -2), ("i", 30), ("k", 10 ** 70))), -60 * 10 ** 70)
        self.assertEqual(letters_of(()), "")
        self.assertEqual(letters_of(shape("k2a3")), "ka")


class Broadcast(unittest.TestCase):
    def test_order_of_axes(self):
        self.assertEqual(broadcast(shape("i2k3"), shape("k3j4")), shape("i2k3j4"))
        self.assertEqual(broadcast(shape("k3j4"), shape("i2k3")), shape("k3j4i2"))
        self.assertEqual(broadcast((), shape("i2")), shape("i2"))
        self.assertEqual(broadcast(shape("i2"), ()), shape("i2"))
        self.assertEqual(broadcast(shape("i2j3"), shape("j3i2")), shape("i2j3"))

    def test_errors(self):
        self.assertIs(error_of(broadcast, shape("i2"), shape("i3")), AxisError)
        self.assertIs(error_of(broadcast, shape("i1"), shape("i3")), AxisError)
        self.assertIs(error_of(broadcast, shape("a1b1c1"), shape("d1e1")), RankError)
        self.assertIs(error_of(broadcast, shape("a1b1c1i2"), shape("i3e1")), AxisError)
        self.assertIs(error_of(broadcast, (("i", 16), ("j", 16)), shape("k2")), TooLarge)
        self.assertEqual(count_of(broadcast((("i", 16),), (("j", 16),))), 256)


class Order(unittest.TestCase):
    def test_row_major(self):
        for axes in ((), shape("i3"), shape("i2k3"), shape("a2b1c3d2"), (("i", 16), ("j", 16))):
            places = list(product(*[range(size) for _, size in axes]))
            for position, at in enumerate(places):
                self.assertEqual(offset(axes, at), position)
                self.assertEqual(indexes(axes, position), at)

    def test_example(self):
        self.assertEqual(offset(shape("i2k3"), (1, 0)), 3)
        self.assertEqual(indexes(shape("i2k3"), 5), (1, 2))
