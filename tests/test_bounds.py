"""Points 1008 and 1009: how far the outputs on codes can be from those of the model."""

import unittest
from fractions import Fraction

from tensorworks.bounds import bound_of
from tensorworks.errors import KindError, RangeError, TableError
from tensorworks.graphs import check_graph
from tensorworks.meaning import evaluate
from tensorworks.quantizing import decode_outputs, encode_feeds, quantize_graph
from tensorworks.scales import MODEL_KINDS
from tests import naive_codes
from tests.helpers import const, error_of, graph_of, random_feeds, random_graph, scalar, tensor
from tests.models import end_feeds, random_models

A, B = ((2, 3), 1), ((1, 3), -2)
NODES = (tensor("i2k3", -2, 3), tensor("k3", -2, 3))


def bound(node, pair, pairs=(A, B)):
    """Return the error of a node on two inputs, with 6 bits, as one of Python's fractions."""
    return Fraction(*bound_of((NODES + (node,), (2,)), tuple(pairs) + (pair,), 6)[0])


class Lines(unittest.TestCase):
    """Each line of the table: the errors of the args are 1/3 and 0, their D 33 and 33, their ranges 3 and 3."""

    def test_sources(self):
        for scale, expected in (((2, 3), (1, 3)), ((1, 3), (0, 1)), ((3, 1), (3, 2)), ((1, 1), (0, 1))):
            self.assertEqual(bound_of(graph_of([scalar(-2, 3)]), ((scale, 0),), 6), (expected,))
        self.assertEqual(bound_of(graph_of([const("k3", 0, 2, -5)]), (((3, 1), 0),), 6), ((1, 1),))
        self.assertEqual(bound_of(graph_of([const("k2", 6, -3)]), (((3, 1), 0),), 6), ((0, 1),))

    def test_moving(self):
        for node in (("order", (0,), ("ki",)), ("pad", (0,), ("k", 1, 2)), ("cut", (0,), ("k", 0, 1)), ("spread", (0,), ("z", 3))):
            self.assertEqual(bound(node, A), Fraction(1, 3))

    def test_two_args(self):
        miss = abs(Fraction(1, 6) - Fraction(43691, 1 << 18))
        step = 2 * (33 * miss + Fraction(1, 2))
        double = 2 * (33 * abs(Fraction(1, 3) - Fraction(43691, 1 << 17)) + Fraction(1, 2))
        for kind in ("add", "sub"):
            self.assertEqual(bound((kind, (0, 1), ()), ((2, 1), 0)), Fraction(1, 3) + double + step)
        for kind, info in (("max", ()), ("min", ())):
            self.assertEqual(bound((kind, (0, 1), info), ((2, 1), 0)), Fraction(1, 3) + double)
            self.assertEqual(bound((kind, (1, 0), info), ((2, 1), 0)), Fraction(1, 3) + double)
        self.assertEqual(bound(("join", (0, 0), ("k",)), ((2, 1), 0)), Fraction(1, 3) + double)

    def test_neg_and_sum(self):
        miss = abs(Fraction(1, 3) - Fraction(43691, 1 << 17))
        self.assertEqual(bound(("neg", (0,), ()), ((2, 1), 0)), Fraction(1, 3) + 2 * (33 * miss + Fraction(1, 2)))
        self.assertEqual(bound(("sum", (0,), ("k",)), ((2, 1), 0)), 1 + 2 * (99 * miss + Fraction(1, 2)))
        self.assertEqual(bound(("neg", (0,), ()), ((2, 3), 0)), Fraction(1, 3))

    def test_products(self):
        miss = abs(Fraction(1, 9) - Fraction(58254, 1 << 19))
        self.assertEqual(bound(("mul", (0, 1), ()), ((2, 1), 0)), 1 + 2 * (33 * 33 * miss + Fraction(1, 2)))
        self.assertEqual(bound(("dot", (0, 1), ("k",)), ((2, 1), 0)), 3 + 2 * (3 * 33 * 33 * miss + Fraction(1, 2)))
        self.assertEqual(bound(("mul", (1, 0), ()), ((2, 1), 0)), Fraction(11, 3) + 2 * (33 * 33 * miss + Fraction(1, 2)))

    def test_multiplier_near_one(self):
        """Where m = 2^s nothing is rounded, but the factor may still be another one."""
        pairs = (((100001, 1), 0), B)
        self.assertEqual(bound(("neg", (0,), ()), ((100000, 1), 0), pairs), Fraction(100001, 2) + 32)


class Random(unittest.TestCase):
    def test_table(self):
        checked = 0
        for graph, table, bits in random_models(range(200)):
            if error_of(quantize_graph, graph, table, bits) is None:
                bounds = naive_codes.bounds_of(graph, check_graph(graph), table, bits)
                self.assertEqual(bound_of(graph, table, bits), tuple((e.numerator, e.denominator) for e in bounds))
                checked += 1
        self.assertGreater(checked, 100)

    def test_guarantee(self):
        checked = met = 0
        for number, (graph, table, bits) in enumerate(random_models(range(1000, 1250), many=7)):
            if error_of(quantize_graph, graph, table, bits) is not None:
                continue
            bounds = bound_of(graph, table, bits)
            coded = quantize_graph(graph, table, bits)
            for turn in range(6):
                feeds = end_feeds(graph, number + turn) if turn < 4 else random_feeds(graph, turn)
                codes = evaluate(coded, encode_feeds(graph, table, bits, feeds))
                told = decode_outputs(graph, table, bits, codes)
                for most, row, exact in zip(bounds, told, evaluate(graph, feeds)):
                    worst = max(abs(Fraction(*a) - n) for a, n in zip(row, exact))
                    self.assertLessEqual(worst, Fraction(*most))
                    met += worst == Fraction(*most)
                checked += 1
        self.assertGreater(checked, 600)
        self.assertGreater(met, 60)

    def test_scales_of_one(self):
        """If all scales are 1 and all zeros 0 the bound is 0, and the outputs are equal."""
        checked = 0
        for seed in range(60):
            graph = random_graph(seed, 8, MODEL_KINDS, wide=2047)
            table = (((1, 1), 0),) * 8
            self.assertEqual(bound_of(graph, table, 12), ((0, 1),) * len(graph[1]))
            feeds = random_feeds(graph, seed)
            codes = evaluate(quantize_graph(graph, table, 12), encode_feeds(graph, table, 12, feeds))
            self.assertEqual(codes, evaluate(graph, feeds))
            checked += 1
        self.assertEqual(checked, 60)

    def test_long_models(self):
        nodes = [scalar(-3, 3)]
        nodes.extend(("add", (at, at), ()) for at in range(38))
        nodes.extend(("neg", (38,), ()) for _ in range(300))
        table = tuple(((3 << at, 7), 0) for at in range(39)) + (((3 << 38, 7), 0),) * 300
        self.assertEqual(len(bound_of(graph_of(nodes), table, 5)), 1)


class Errors(unittest.TestCase):
    def test_order(self):
        graph = graph_of([scalar(0, 0), ("neg", (0,), ())])
        for given, table, bits, expected in (
                (graph_of([scalar(3, 1)]), (), 2, RangeError), (graph_of([scalar(0, 1), ("less", (0, 0), ())]), (), 2, KindError),
                (graph, (), 2, RangeError), (graph, (), 3, TableError), (graph, (((1, 1), 9), ((1, 1), 0)), 3, TableError),
                (graph, (((1, 1), 0), ((1 << 32, 1), 0)), 3, TableError), (graph, (((32768, 1), 0), ((1, 1), 0)), 3, TableError),
                (graph, (((32767, 1), 0), ((1, 1), 0)), 3, None)):
            self.assertIs(error_of(bound_of, given, table, bits), expected)

    def test_outputs(self):
        graph = graph_of([scalar(-2, 3), ("neg", (0,), ())], 1, 0, 1)
        self.assertEqual(bound_of(graph, (((2, 1), 0), ((2, 1), 0)), 6), ((1, 1), (1, 1), (1, 1)))
        self.assertEqual(bound_of(graph, (((2, 1), 0), ((1, 1), 0)), 6), ((3, 2), (1, 1), (3, 2)))
