"""Points 202 and 203: domains, and the errors of a node in their order."""

import unittest

from tensorworks.domains import domain_of
from tensorworks.errors import (
    AxisError, FormError, KindError, RangeError, RankError, TensorError, TooLarge, TooWide,
)
from tests.helpers import WIDE, error_of, shape

A = (shape("i2k3"), -3, 4)
B = (shape("k3j4"), -5, 2)
C = ((), 1, 2)
D = (shape("k3"), -1, 6)
E = ((("i", 16), ("j", 16)), 0, 1)
SOME = (A, B, C, D, E)


def domain(kind, args=(), info=()):
    return domain_of((kind, args, info), SOME)


class Domains(unittest.TestCase):
    def test_sources(self):
        self.assertEqual(domain("input", (), (shape("i2"), -3, 4)), (shape("i2"), -3, 4))
        self.assertEqual(domain("input", (), ((), 7, 7)), ((), 7, 7))
        self.assertEqual(domain("const", (), (shape("i3"), (5, -1, 2))), (shape("i3"), -1, 5))
        self.assertEqual(domain_of(("const", (), ((), (8,))), ()), ((), 8, 8))

    def test_pointwise(self):
        both = shape("i2k3j4")
        self.assertEqual(domain("add", (0, 1)), (both, -8, 6))
        self.assertEqual(domain("sub", (0, 1)), (both, -5, 9))
        self.assertEqual(domain("sub", (1, 0)), (shape("k3j4i2"), -9, 5))
        self.assertEqual(domain("mul", (0, 1)), (both, -20, 15))
        self.assertEqual(domain("mul", (0, 0)), (A[0], -12, 16))
        self.assertEqual(domain("max", (0, 1)), (both, -3, 4))
        self.assertEqual(domain("min", (0, 1)), (both, -5, 2))
        self.assertEqual(domain("less", (0, 1)), (both, 0, 1))
        self.assertEqual(domain("equal", (0, 1)), (both, 0, 1))
        self.assertEqual(domain("neg", (0,)), (A[0], -4, 3))
        self.assertEqual(domain("clamp", (0,), (-1, 9)), (A[0], -1, 4))
        self.assertEqual(domain("clamp", (0,), (6, 9)), (A[0], 6, 6))
        self.assertEqual(domain("shift", (0,), (1,)), (A[0], -1, 2))
        self.assertEqual(domain("shift", (0,), (2,)), (A[0], -1, 1))
        self.assertEqual(domain("where", (2, 0, 1)), (both, -5, 4))
        self.assertEqual(domain("where", (3, 1, 2)), (shape("k3j4"), -5, 2))

    def test_reducing(self):
        self.assertEqual(domain("sum", (0,), ("k",)), (shape("i2"), -9, 12))
        self.assertEqual(domain("peak", (0,), ("i",)), (shape("k3"), -3, 4))
        self.assertEqual(domain("dot", (0, 1), ("k",)), (shape("i2j4"), -60, 45))
        self.assertEqual(domain("dot", (3, 3), ("k",)), ((), -18, 108))
        small = (("k", 3), ("j", 4))
        self.assertEqual(domain("fold", (1,), ("k", "j", 2, 9)), ((("k", 9),), -20, 8))
        self.assertEqual(domain_of(("fold", (0,), ("j", "k", 1, 6)), ((small, 2, 5),)), ((("j", 6),), 0, 15))
        self.assertEqual(domain_of(("fold", (0,), ("j", "k", 1, 6)), ((small, -5, -2),)), ((("j", 6),), -15, 0))

    def test_moving(self):
        self.assertEqual(domain("order", (0,), ("ki",)), (shape("k3i2"), -3, 4))
        self.assertEqual(domain("order", (2,), ("",)), ((), 1, 2))
        self.assertEqual(domain("rename", (0,), ("i", "z")), (shape("z2k3"), -3, 4))
        self.assertEqual(domain("spread", (0,), ("a", 16)), (A[0] + (("a", 16),), -3, 4))
        self.assertEqual(domain("cut", (0,), ("k", 1, 2)), (shape("i2k2"), -3, 4))
        self.assertEqual(domain("pad", (0,), ("k", 1, 2)), (shape("i2k6"), -3, 4))
        self.assertEqual(domain("pad", (3,), ("k", 0, 0)), (shape("k3"), -1, 6))
        self.assertEqual(domain_of(("pad", (0,), ("k", 1, 0)), ((shape("k3"), 2, 6),)), (shape("k4"), 0, 6))
        self.assertEqual(domain_of(("pad", (0,), ("k", 0, 0)), ((shape("k3"), -6, -2),)), (shape("k3"), -6, 0))
        self.assertEqual(domain("join", (0, 0), ("k",)), (shape("i2k6"), -3, 4))
        self.assertEqual(domain_of(("join", (0, 1), ("k",)), (D, (shape("k2"), -7, 1))), (shape("k5"), -7, 6))
        self.assertEqual(domain("window", (1,), ("j", "w", 3, 2)), ((("k", 3), ("j", 1), ("w", 3)), -5, 2))
        self.assertEqual(domain("window", (4,), ("i", "w", 3, 13)), ((("i", 2), ("w", 3), ("j", 16)), 0, 1))
        self.assertEqual(domain("gather", (0, 2), ("k",)), (shape("i2"), -3, 4))
        self.assertEqual(
            domain_of(("gather", (0, 1), ("i",)), (A, (shape("a2b3"), 0, 9))), (shape("a2b3k3"), -3, 4))


class Order(unittest.TestCase):
    """Each error, and of two the one that the list names first."""

    def fails(self, error, kind, args=(), info=(), some=SOME):
        self.assertIs(error_of(domain_of, (kind, args, info), some), error, (kind, args, info))

    def test_kind(self):
        for kind in ("", "out", "Add", "div", "sum "):
            self.fails(KindError, kind, (9, 9, 9), (1, 2, 3, 4, 5))

    def test_numbers_of_args_and_fields(self):
        self.fails(FormError, "add", (0,))
        self.fails(FormError, "add", (0, 1, 2))
        self.fails(FormError, "add", (0, 1), ("k",))
        self.fails(FormError, "sum", (0,))
        self.fails(FormError, "input", (0,), (shape("i2"), 1, 2))
        self.fails(FormError, "input", (), (shape("i2"), 1))
        self.fails(FormError, "const", (), (shape("i2"),))
        self.fails(FormError, "const", (), (shape("i2"), (1,)))
        self.fails(FormError, "const", (), (shape("i2"), (1, 2, 3)))
        self.fails(FormError, "where", (0, 0))
        self.fails(FormError, "clamp", (0,), (5,))
        # before a field out of its range
        self.fails(FormError, "clamp", (0, 1), (5, 4))

    def test_data_before_shape(self):
        self.fails(FormError, "const", (), (shape("a1b1c1d1e1"), (1, 2)))
        self.fails(FormError, "const", (), (shape("a2a2"), (1, 2)))
        self.fails(RankError, "const", (), (shape("a1b1c1d1e1"), (1,)))
        self.fails(AxisError, "const", (), (shape("a2a2"), (1, 2, 3, 4)))
        self.fails(RangeError, "const", (), (shape("i0"), ()))
        self.fails(RangeError, "const", (), ((("i", -1), ("j", -2)), (1, 2)))
        self.fails(FormError, "const", (), ((("i", -1),), ()))

    def test_args(self):
        self.fails(FormError, "neg", (5,))
        self.fails(FormError, "neg", (-1,))
        self.fails(FormError, "neg", (0,), (), ())
        self.fails(FormError, "add", (0, 99))
        self.fails(FormError, "clamp", (5,), (5, 4))
        self.fails(FormError, "shift", (-1,), (0,))

    def test_range_of_fields(self):
        self.fails(RangeError, "input", (), ((), 4, 3))
        self.fails(RangeError, "clamp", (0,), (4, 3))
        self.fails(RangeError, "clamp", (0,), (-WIDE - 1, 3))
        self.fails(RangeError, "clamp", (0,), (0, WIDE + 1))
        self.fails(None, "clamp", (0,), (-WIDE, WIDE))
        self.fails(None, "clamp", (0,), (4, 4))
        for n, error in ((0, RangeError), (1, None), (30, None), (31, RangeError), (-1, RangeError)):
            self.fails(error, "shift", (0,), (n,))
        for n, error in ((0, RangeError), (1, None), (16, None), (17, RangeError)):
            self.fails(error, "spread", (2,), ("a", n))
        long = ((("k", 16),), 0, 1)
        for n, error in ((0, RangeError), (1, None), (16, None), (17, RangeError)):
            self.fails(error, "cut", (0,), ("k", 0, n), (long,))
            self.fails(error, "window", (0,), ("k", "w", 1, n), (long,))
            self.fails(error, "window", (0,), ("k", "w", n, 1), (long,))
            self.fails(error, "fold", (0,), ("k", "i", n, 1), ((shape("k1i1"), 0, 1),))
            self.fails(error, "fold", (0,), ("k", "i", 1, n), ((shape("k1i1"), 0, 1),))
        one = (shape("k1"), 0, 1)
        for n, error in ((-1, RangeError), (0, None), (15, None), (17, RangeError)):
            self.fails(error, "pad", (0,), ("k", n, 0), (one,))
            self.fails(error, "pad", (0,), ("k", 0, n), (one,))
        for n, error in ((-1, RangeError), (0, None), (15, None), (16, RangeError), (17, RangeError)):
            self.fails(error, "cut", (0,), ("k", n, 1), (long,))

    def test_range_before_axes(self):
        self.fails(RangeError, "spread", (0,), ("k", 17))
        self.fails(RangeError, "cut", (0,), ("z", 17, 1))
        self.fails(RangeError, "cut", (0,), ("z", 0, 0))
        self.fails(RangeError, "pad", (0,), ("z", -1, 0))
        self.fails(RangeError, "window", (0,), ("z", "w", 0, 1))
        self.fails(RangeError, "fold", (0,), ("z", "k", 0, 1))
        # before the shape of an input
        self.fails(RangeError, "input", (), (shape("a1b1c1d1e1"), 4, 3))

    def test_shape_of_sources(self):
        for kind, rest in (("input", (0, 1)), ("const", ((0,) * 512,))):
            self.fails(TooLarge, kind, (), ((("i", 16), ("j", 16), ("k", 2)),) + rest)
        self.fails(RankError, "input", (), (shape("a1b1c1d1e1"), 0, 1))
        self.fails(AxisError, "input", (), (shape("a1a1"), 0, 1))
        self.fails(RangeError, "input", (), ((("i", 17),), 0, 1))
        self.fails(RangeError, "const", (), ((("i", 17),), (0,) * 17))
        # before the width
        self.fails(RankError, "input", (), (shape("a1b1c1d1e1"), 0, 2 * WIDE))

    def test_axes(self):
        for kind, args, info in (
            ("sum", (0,), ("z",)), ("peak", (0,), ("z",)), ("sum", (2,), ("i",)),
            ("dot", (0, 1), ("i",)), ("dot", (0, 1), ("j",)), ("dot", (0, 1), ("z",)),
            ("order", (0,), ("i",)), ("order", (0,), ("ik" + "i",)), ("order", (0,), ("iz",)), ("order", (0,), ("",)),
            ("order", (0,), ("ikz",)), ("rename", (0,), ("z", "a")), ("rename", (0,), ("i", "k")),
            ("rename", (0,), ("i", "i")), ("spread", (0,), ("k", 2)), ("cut", (0,), ("z", 0, 1)),
            ("pad", (0,), ("z", 0, 1)), ("join", (0, 0), ("z",)), ("join", (0, 1), ("k",)), ("join", (0, 3), ("i",)),
            ("window", (0,), ("z", "w", 1, 1)), ("window", (0,), ("i", "k", 1, 1)), ("window", (0,), ("i", "i", 1, 1)),
            ("fold", (0,), ("z", "k", 1, 9)), ("fold", (0,), ("i", "z", 1, 9)), ("fold", (0,), ("i", "i", 1, 9)),
            ("gather", (0, 2), ("z",)), ("gather", (0, 3), ("i",)), ("gather", (0, 3), ("k",)),
        ):
            self.fails(AxisError, kind, args, info)

    def test_axes_of_join(self):
        first = (shape("i2k3"), 0, 1)
        self.fails(AxisError, "join", (0, 1), ("i",), (first, (shape("k3i2"), 0, 1)))
        self.fails(AxisError, "join", (0, 1), ("i",), (first, (shape("i2k4"), 0, 1)))
        self.fails(AxisError, "join", (0, 1), ("i",), (first, (shape("i2"), 0, 1)))
        self.fails(None, "join", (0, 1), ("i",), (first, (shape("i5k3"), 0, 1)))

    def test_axes_before_room(self):
        self.fails(AxisError, "window", (0,), ("i", "k", 9, 1))
        self.fails(AxisError, "cut", (0,), ("z", 9, 9))
        self.fails(AxisError, "fold", (0,), ("i", "i", 16, 1))

    def test_room(self):
        self.fails(None, "cut", (0,), ("k", 1, 2))
        self.fails(RangeError, "cut", (0,), ("k", 2, 2))
        self.fails(RangeError, "window", (0,), ("k", "w", 4, 1))
        self.fails(None, "window", (0,), ("k", "w", 3, 1))
        self.fails(None, "fold", (0,), ("i", "k", 5, 8))
        self.fails(RangeError, "fold", (0,), ("i", "k", 5, 7))
        self.fails(RangeError, "fold", (0,), ("i", "k", 6, 8))

    def test_room_before_result(self):
        four = (shape("a2b1c1d1"), 0, 1)
        self.fails(RangeError, "window", (0,), ("a", "w", 3, 1), (four,))
        self.fails(RankError, "window", (0,), ("a", "w", 2, 1), (four,))

    def test_broadcast(self):
        other = (shape("k4"), 0, 1)
        for kind in ("add", "sub", "mul", "max", "min", "less", "equal"):
            self.fails(AxisError, kind, (0, 1), (), (A, other))
            self.fails(RankError, kind, (0, 1), (), (A, (shape("a1b1c1"), 0, 1)))
            self.fails(TooLarge, kind, (0, 1), (), (E, (shape("k2"), 0, 1)))

    def test_broadcast_of_where(self):
        # c and a clash in rank, a and b in an axis: c and a come first
        five = (shape("a1b1c1"), 0, 1)
        self.fails(RankError, "where", (0, 1, 2), (), (A, five, (shape("k4"), 0, 1)))
        self.fails(AxisError, "where", (0, 1, 2), (), (A, (shape("k4"), 0, 1), five))
        self.fails(AxisError, "where", (0, 1, 2), (), (C, D, (shape("k4"), 0, 1)))
        self.fails(RankError, "where", (0, 1, 2), (), (A, C, five))
        self.fails(TooLarge, "where", (0, 1, 2), (), (C, E, (shape("k2"), 0, 1)))

    def test_result(self):
        full = ((("i", 16), ("j", 16)), 0, 1)
        four = (shape("a1b1c1d1"), 0, 1)
        self.fails(RankError, "spread", (0,), ("e", 1), (four,))
        self.fails(TooLarge, "spread", (0,), ("e", 2), (full,))
        self.fails(RangeError, "pad", (0,), ("i", 1, 0), (full,))
        self.fails(RangeError, "pad", (0,), ("k", 7, 7), ((shape("k3"), 0, 1),))
        self.fails(TooLarge, "pad", (0,), ("k", 1, 0), (((("i", 16), ("k", 8), ("m", 2)), 0, 1),))
        self.fails(RangeError, "join", (0, 0), ("k",), (((("k", 9),), 0, 1),))
        self.fails(None, "join", (0, 0), ("k",), (((("k", 8),), 0, 1),))
        self.fails(TooLarge, "join", (0, 0), ("k",), (((("i", 16), ("k", 8), ("m", 2)), 0, 1),))
        self.fails(TooLarge, "window", (0,), ("i", "w", 2, 1), (full,))
        self.fails(TooLarge, "fold", (0,), ("k", "m", 1, 16), (((("i", 16), ("k", 4), ("m", 1), ("n", 2)), 0, 1),))
        self.fails(RankError, "gather", (0, 1), ("a",), (four, (shape("x1y1"), 0, 1)))
        self.fails(TooLarge, "gather", (0, 1), ("i",), (full, (((("x", 16), ("y", 2))), 0, 1)))

    def test_broadcast_of_dot(self):
        # The broadcast that still has the axis may be too large, or have too many axes.
        first = ((("i", 16), ("k", 16)), 0, 1)
        second = ((("k", 16), ("j", 16)), 0, 1)
        self.assertEqual(domain_of(("dot", (0, 1), ("k",)), (first, second)), ((("i", 16), ("j", 16)), 0, 16))
        many = domain_of(("dot", (0, 1), ("k",)), ((shape("a1b1k2"), 0, 1), (shape("k2c1d1"), 0, 1)))
        self.assertEqual(many, (shape("a1b1c1d1"), 0, 2))
        self.fails(AxisError, "dot", (0, 1), ("k",), ((shape("a1b1k2"), 0, 1), (shape("k3c1d1e1"), 0, 1)))
        self.fails(AxisError, "dot", (0, 1), ("k",), ((shape("i2k2"), 0, 1), (shape("k2i3"), 0, 1)))
        self.fails(RankError, "dot", (0, 1), ("k",), ((shape("a1b1c1k2"), 0, 1), (shape("k2d1e1"), 0, 1)))
        self.fails(TooLarge, "dot", (0, 1), ("k",), (first, (((("k", 16), ("j", 16), ("m", 2))), 0, 1)))

    def test_width(self):
        wide = ((), -WIDE, WIDE)
        self.fails(None, "input", (), wide)
        self.fails(TooWide, "input", (), ((), -WIDE - 1, 0))
        self.fails(TooWide, "input", (), ((), 0, WIDE + 1))
        self.fails(None, "const", (), ((), (WIDE,)))
        self.fails(TooWide, "const", (), ((), (-WIDE - 1,)))
        self.fails(TooWide, "add", (0, 1), (), (wide, ((), 0, 1)))
        self.fails(TooWide, "sub", (0, 1), (), (wide, ((), 0, 1)))
        self.fails(None, "neg", (0,), (), (wide,))
        self.fails(TooWide, "mul", (0, 0), (), (((), 0, (1 << 100) + 1),))
        self.fails(None, "mul", (0, 0), (), (((), 0, 1 << 100),))
        self.fails(TooWide, "sum", (0,), ("k",), ((shape("k3"), 0, WIDE // 2),))
        self.fails(None, "sum", (0,), ("k",), ((shape("k2"), 0, WIDE // 2),))
        self.fails(TooWide, "dot", (0, 0), ("k",), ((shape("k2"), 0, 1 << 100),))
        self.fails(TooWide, "fold", (0,), ("i", "k", 1, 9), ((shape("i2k3"), 0, WIDE // 2),))

    def test_result_before_width(self):
        self.fails(TooLarge, "add", (0, 1), (), ((E[0], 0, WIDE), (shape("k2"), 0, WIDE)))

    def test_every_error_is_one(self):
        with self.assertRaises(TensorError):
            domain("nothing")
