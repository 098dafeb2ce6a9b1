"""Points 1001 to 1005: models, bits, tables, codes and multipliers."""

import random
import unittest
from fractions import Fraction

from tensorworks.errors import AxisError, FormError, KindError, RangeError, TableError, TensorError, TooLarge
from tensorworks.kinds import KINDS
from tensorworks.graphs import check_graph
from tensorworks.scales import MODEL_KINDS, check_table, choose_table, code_of, meaning_of, multiplier
from tests import naive_codes
from tests.helpers import const, error_of, graph_of, random_graph, scalar, tensor

ONE = graph_of([scalar(-1, 3)])
BAD = ((("what", (), ()),), (0,))
OTHERS = {
    "less": ("less", (0, 0), ()), "equal": ("equal", (0, 0), ()), "clamp": ("clamp", (0,), (0, 1)),
    "shift": ("shift", (0,), (1,)), "where": ("where", (0, 0, 0), ()), "peak": ("peak", (0,), ("k",)),
    "fold": ("fold", (0,), ("k", "i", 1, 9)), "gather": ("gather", (0, 1), ("k",)),
}


def same(node, *pairs):
    """Return the error of a table for the graph of an input from -4 to 3 and a node on it."""
    return error_of(check_table, graph_of([tensor("k2i2", -4, 3), node]), pairs, 3)


class Multiplier(unittest.TestCase):
    def test_powers_of_two(self):
        for n in range(1, 15):
            self.assertEqual(multiplier((1 << n, 1)), (32768, 15 - n))
        self.assertEqual(multiplier((1, 1)), (32768, 15))
        for n in range(1, 16):
            self.assertEqual(multiplier((1, 1 << n)), (32768, 15 + n))
        self.assertEqual(multiplier((1, 1 << 16)), (16384, 30))
        self.assertEqual(multiplier((1, 1 << 30)), (1, 30))

    def test_edges(self):
        """The greatest factor is 65535, and halves are rounded up."""
        for a, pair in (
                ((1, 3), (43691, 17)), ((32767, 1), (65534, 1)), ((65535, 2), (65535, 1)), ((65535, 4), (65535, 2)),
                ((65535, 1 << 30), (65535, 30)), ((65536, 1 << 30), (32768, 29)), ((131071, 1 << 31), (32768, 29)),
                ((131069, 1 << 31), (65535, 30)), ((131070, 1 << 31), (65535, 30)), ((131069, 4), (65535, 1))):
            a = Fraction(*a)
            self.assertEqual(multiplier((a.numerator, a.denominator)), pair, a)

    def test_too_great(self):
        self.assertIs(error_of(multiplier, (131071, 4)), TableError)
        self.assertIs(error_of(multiplier, (32768, 1)), TableError)
        self.assertIs(error_of(multiplier, (10 ** 40, 3)), TableError)
        self.assertEqual(multiplier((131069, 4)), (65535, 1))
        self.assertEqual(multiplier((32767, 1)), (65534, 1))

    def test_too_small(self):
        self.assertEqual(multiplier((1, 1 << 31)), (1, 30))
        self.assertIs(error_of(multiplier, (1, (1 << 31) + 1)), TableError)
        self.assertIs(error_of(multiplier, (1, 10 ** 40)), TableError)

    def test_random(self):
        chance = random.Random(1)
        for _ in range(2000):
            a = Fraction(chance.randint(1, 1 << chance.randint(1, 40)), chance.randint(1, 1 << chance.randint(1, 40)))
            expected = naive_codes.multiplier(a)
            if expected is None:
                self.assertIs(error_of(multiplier, (a.numerator, a.denominator)), TableError)
            else:
                self.assertEqual(multiplier((a.numerator, a.denominator)), expected)


class Codes(unittest.TestCase):
    def test_halves(self):
        for x, expected in (((1, 2), 1), ((-1, 2), 0), ((3, 2), 2), ((-3, 2), -1), ((5, 2), 3), ((-5, 2), -2), ((0, 1), 0)):
            self.assertEqual(code_of(((1, 1), 0), 8, x), expected)
        self.assertEqual(code_of(((2, 3), 0), 8, (1, 1)), 2)
        self.assertEqual(code_of(((2, 3), -3), 8, (-1, 1)), -4)
        self.assertEqual(code_of(((2, 1), 5), 8, (1, 1)), 6)

    def test_limits(self):
        for bits, low, high in ((3, -4, 3), (8, -128, 127), (12, -2048, 2047)):
            self.assertEqual(code_of(((1, 1), 0), bits, (10 ** 9, 1)), high)
            self.assertEqual(code_of(((1, 1), 0), bits, (-10 ** 9, 1)), low)
            self.assertEqual(code_of(((1, 1), 0), bits, (high, 1)), high)
            self.assertEqual(code_of(((1, 1), 0), bits, (low, 1)), low)
            self.assertEqual(code_of(((1, 1), 2), bits, (high - 1, 1)), high)
            self.assertEqual(code_of(((1, 1), -2), bits, (high + 3, 1)), high)

    def test_bits(self):
        for bits in (2, 13, 0, -3):
            self.assertIs(error_of(code_of, ((1, 1), 0), bits, (0, 1)), RangeError)

    def test_meaning(self):
        self.assertEqual(meaning_of(((2, 7), -4), -4), (0, 1))
        self.assertEqual(meaning_of(((2, 7), -4), 3), (2, 1))
        self.assertEqual(meaning_of(((2, 7), 3), -2), (-10, 7))

    def test_difference(self):
        """A number in the range is met up to half of the scale, an integer exactly if the numerator is 1."""
        chance = random.Random(2)
        for _ in range(2000):
            bits = chance.randint(3, 12)
            low, high = naive_codes.ends(bits)
            scale = Fraction(chance.randint(1, 40), chance.randint(1, 40))
            pair = ((scale.numerator, scale.denominator), chance.randint(low, high))
            ends = [scale * (end - pair[1]) for end in (low, high)]
            x = ends[0] + (ends[1] - ends[0]) * Fraction(chance.randint(0, 60), 60)
            n = code_of(pair, bits, (x.numerator, x.denominator))
            self.assertEqual(n, naive_codes.code(pair, bits, x))
            self.assertLessEqual(abs(Fraction(*meaning_of(pair, n)) - x), scale / 2)
            whole = x.numerator // x.denominator
            if scale.numerator == 1 and ends[0] <= whole:
                self.assertEqual(meaning_of(pair, code_of(pair, bits, (whole, 1))), (whole, 1))


class Models(unittest.TestCase):
    def test_kinds(self):
        self.assertEqual(set(KINDS) - set(OTHERS), set(MODEL_KINDS))
        for kind, node in OTHERS.items():
            graph = graph_of([tensor("k2i2"), const("z2", 0, 1), node])
            check_graph(graph)
            self.assertIs(error_of(choose_table, graph, 8), KindError, kind)
            self.assertIs(error_of(check_table, graph, (), 8), KindError, kind)

    def test_order_of_errors(self):
        rough = graph_of([tensor("k2i2"), OTHERS["shift"]])
        for graph, bits, expected in (
                (BAD, 2, KindError), (((), ()), 2, FormError), (graph_of([scalar(3, 1)]), 2, RangeError),
                (graph_of([tensor("k2k2"), OTHERS["shift"]]), 2, AxisError), (rough, 2, KindError), (ONE, 2, RangeError),
                (ONE, 13, RangeError), (ONE, 3, None), (ONE, 12, None), (((ONE[0] * 401), (0,)), 2, TooLarge)):
            self.assertIs(error_of(choose_table, graph, bits), expected)
            self.assertIs(error_of(check_table, graph, (((1, 1), 0),) * len(graph[0]), bits), expected)
        self.assertIs(error_of(check_table, ONE, (), 13), RangeError)
        self.assertIs(error_of(check_table, ONE, (), 12), TableError)


class Choice(unittest.TestCase):
    def test_examples(self):
        for low, high, bits, pair in (
                (-1, 3, 4, ((2, 7), -4)), (0, 0, 8, ((1, 1), 0)), (5, 9, 4, ((9, 14), -8)), (-9, -5, 4, ((9, 14), 6)),
                (-7, 7, 4, ((1, 1), -1)), (0, 14, 4, ((1, 1), -8)), (-14, 0, 4, ((1, 1), 6)), (-3, 4, 3, ((7, 6), -1)),
                (0, 1, 12, ((1, 4094), -2048)), (-10 ** 20, 10 ** 20, 3, ((10 ** 20, 3), -1))):
            self.assertEqual(choose_table(graph_of([scalar(low, high)]), bits), (pair,), (low, high))

    def test_consts_and_moving_nodes(self):
        nodes = [const("k2", 3, 5), ("pad", (0,), ("k", 1, 1)), ("neg", (1,), ()), ("rename", (2,), ("k", "z")), ("sum", (0,), ("k",))]
        five, ten = ((5, 14), -8), ((5, 7), -8)
        self.assertEqual(choose_table(graph_of(nodes), 4), (five, five, ((5, 14), 6), ((5, 14), 6), ten))

    def test_table_is_right(self):
        checked = 0
        for seed in range(120):
            graph = random_graph(seed, 12, MODEL_KINDS)
            bits = 3 + seed % 10
            table = choose_table(graph, bits)
            if max(max(scale) for scale, _ in table) <= 1 << 40:
                self.assertIsNone(check_table(graph, table, bits))
                checked += 1
            for (_, low, high), (scale, zero), (kind, _, _) in zip(check_graph(graph), table, graph[0]):
                first, last = naive_codes.ends(bits)
                self.assertLessEqual(first, zero)
                self.assertLessEqual(zero, last)
                if kind not in naive_codes.MOVING:
                    self.assertLessEqual(Fraction(*scale) * (first - zero), min(low, 0))
                    self.assertLessEqual(max(high, 0), Fraction(*scale) * (last - zero))
        self.assertGreater(checked, 100)


class Tables(unittest.TestCase):
    def test_number_of_pairs(self):
        pair = ((1, 1), 0)
        for many, expected in ((0, TableError), (1, None), (2, TableError)):
            self.assertIs(error_of(check_table, ONE, (pair,) * many, 3), expected)

    def test_scales(self):
        top = 1 << 40
        for scale, expected in (
                ((0, 1), TableError), ((-1, 1), TableError), ((1, 1), None), ((top, 1), None), ((top + 1, 1), TableError),
                ((top, top - 1), None), ((top - 1, top), TableError), ((top + 1, top), TableError), ((top, top + 1), TableError),
                ((4 * top + 1, 4 * top), TableError)):
            self.assertIs(error_of(check_table, ONE, ((scale, 0),), 3), expected, scale)
        # Of these only the scale or the zero is wrong: the codes would reach as far as they must.
        self.assertIs(error_of(check_table, graph_of([scalar(0, 0)]), (((0, 1), 0),), 3), TableError)
        self.assertIs(error_of(check_table, graph_of([scalar(-4, -2)]), (((1, 1), 4),), 3), TableError)
        self.assertIs(error_of(check_table, graph_of([scalar(2, 4)]), (((1, 1), -5),), 3), TableError)
        self.assertIsNone(check_table(graph_of([scalar(0, 0)]), (((1, top), 0),), 3))
        self.assertIs(error_of(check_table, graph_of([scalar(0, 0)]), (((1, top + 1), 0),), 3), TableError)

    def test_zeros(self):
        graph = graph_of([scalar(0, 0)])
        for bits in (3, 7, 12):
            low, high = naive_codes.ends(bits)
            for zero, expected in ((low, None), (high, None), (low - 1, TableError), (high + 1, TableError)):
                self.assertIs(error_of(check_table, graph, (((1, 1), zero),), bits), expected)

    def test_intervals(self):
        """With 3 bits, a scale of 2/3 and a zero of 1 the codes mean -10/3 to 4/3."""
        pair = ((2, 3), 1)
        for low, high, expected in ((-3, 1, None), (-4, 1, TableError), (-3, 2, TableError), (0, 0, None), (2, 3, TableError)):
            self.assertIs(error_of(check_table, graph_of([scalar(low, high)]), (pair,), 3), expected)
            self.assertIs(error_of(check_table, graph_of([const("k2", low, high)]), (pair,), 3), expected)
        for scale, zero, low, high in (((1, 1), 0, -4, 3), ((2, 1), 0, -8, 6), ((1, 1), -2, -2, 5), ((5, 1), 3, -35, 0)):
            self.assertIsNone(check_table(graph_of([scalar(low, high)]), ((scale, zero),), 3))
            self.assertIs(error_of(check_table, graph_of([scalar(low - 1, high)]), ((scale, zero),), 3), TableError)
            self.assertIs(error_of(check_table, graph_of([scalar(low, high + 1)]), ((scale, zero),), 3), TableError)

    def test_moving_nodes(self):
        pair, other, wide = ((1, 1), 0), ((2, 2), 0), ((1, 1), 1)
        for node in (
                ("order", (0,), ("ik",)), ("rename", (0,), ("k", "z")), ("spread", (0,), ("z", 2)), ("cut", (0,), ("k", 0, 1)),
                ("pad", (0,), ("k", 0, 1)), ("window", (0,), ("k", "z", 1, 1))):
            self.assertIsNone(same(node, pair, pair))
            self.assertIs(same(node, pair, other), TableError)
            self.assertIs(same(node, pair, wide), TableError)
            self.assertIs(same(node, pair), TableError)
        self.assertIsNone(same(("neg", (0,), ()), pair, ((4, 3), 0)))
        self.assertIs(same(("neg", (0,), ()), pair, pair), TableError)

    def test_second_node(self):
        nodes = [scalar(0, 3), ("add", (0, 0), ())]
        self.assertIsNone(check_table(graph_of(nodes), (((1, 1), 0), ((2, 1), 0)), 3))
        self.assertIs(error_of(check_table, graph_of(nodes), (((1, 1), 0), ((1, 1), 0)), 3), TableError)
        self.assertIs(error_of(check_table, graph_of(nodes), (((1, 2), 0), ((2, 1), 0)), 3), TableError)

    def test_two_faults(self):
        self.assertIs(error_of(check_table, graph_of([scalar(3, 1)]), (), 3), RangeError)
        self.assertIs(error_of(check_table, graph_of([tensor("k2"), OTHERS["shift"]]), (((0, 1), 99),), 3), KindError)
        self.assertIs(error_of(check_table, ONE, (((0, 1), 99),), 2), RangeError)
        self.assertIs(error_of(check_table, ONE, (((0, 1), 99),), 3), TableError)
        self.assertTrue(issubclass(TableError, TensorError))
