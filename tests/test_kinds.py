"""Points 201 and 202: the kinds, and what the pointwise ones make of numbers."""

import unittest

from tensorworks.kinds import KINDS, NODE_LIMIT, WIDTH_LIMIT, WORK_LIMIT, pointwise
from tests import naive


class Kinds(unittest.TestCase):
    def test_constants(self):
        self.assertEqual((NODE_LIMIT, WORK_LIMIT, WIDTH_LIMIT), (400, 50000, 200))
        self.assertEqual(" ".join(KINDS), (
            "input const add sub mul max min less equal neg clamp shift where "
            "sum peak dot order rename spread cut pad join window fold gather"
        ))
        self.assertIsInstance(KINDS, tuple)

    def test_two_args(self):
        some = (-7, -1, 0, 1, 2, 9, 1 << 250)
        for kind in ("add", "sub", "mul", "max", "min", "less", "equal"):
            for a in some:
                for b in some:
                    self.assertEqual(pointwise(kind, (a, b), ()), naive.pointwise(kind, (a, b), ()), kind)

    def test_truth_is_an_integer(self):
        for kind in ("less", "equal"):
            for pair in ((1, 1), (1, 2)):
                self.assertIs(type(pointwise(kind, pair, ())), int)

    def test_one_arg(self):
        self.assertEqual(pointwise("neg", (5,), ()), -5)
        self.assertEqual([pointwise("clamp", (n,), (-2, 3)) for n in (-9, -2, 0, 3, 4)], [-2, -2, 0, 3, 3])
        self.assertEqual(pointwise("clamp", (7,), (2, 2)), 2)

    def test_shift(self):
        self.assertEqual(pointwise("shift", (-3,), (1,)), -1)
        self.assertEqual([pointwise("shift", (n,), (1,)) for n in range(-4, 5)], [-2, -1, -1, 0, 0, 1, 1, 2, 2])
        self.assertEqual([pointwise("shift", (n,), (2,)) for n in (-7, -6, -5, 1, 2, 5, 6)], [-2, -1, -1, 0, 1, 1, 2])
        self.assertEqual(pointwise("shift", ((1 << 200) + (1 << 29),), (30,)), (1 << 170) + 1)

    def test_where(self):
        self.assertEqual([pointwise("where", (c, 5, 6), ()) for c in (-1, 0, 1, 2)], [5, 6, 5, 5])
