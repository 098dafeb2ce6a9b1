"""Points 1006 and 1007: graphs on codes, codes of feeds and what codes of outputs mean."""

import unittest

from tensorworks.errors import FeedError, KindError, RangeError, TableError, TooLarge
from tensorworks.graphs import check_graph
from tensorworks.meaning import evaluate
from tensorworks.quantizing import decode_outputs, encode_feeds, quantize_graph
from tests import naive_codes
from tests.helpers import const, error_of, graph_of, random_feeds, scalar, tensor
from tests.models import end_feeds, random_models

A, B = ((1, 2), 1), ((1, 3), -2)
START = (tensor("i2k3", -2, 3), tensor("k3", -2, 3))
FIRST = (tensor("i2k3", -32, 31), tensor("k3", -32, 31))
END = [const("", -7), ("clamp", None, (-32, 31))]


def made(node, pair, pairs=(A, B), start=START):
    """Return what stands for the node number 2 of a model, behind its two inputs, and the outputs."""
    result = quantize_graph((tuple(start) + (node,), (2, 0)), tuple(pairs) + (pair,), 6)
    for (kind, _, info), given in zip(result[0], start):
        assert (kind, info) == ("input", (given[2][0], -32, 31))
    return list(result[0][2:]), result[1]


class Table(unittest.TestCase):
    """Each line of the table of point 1006; the factors are 1/2 over 2 and 1/3 over 2, and what comes of products."""

    def check(self, node, pair, nodes, out, pairs=(A, B)):
        self.assertEqual(made(node, pair, pairs), (nodes, (out, 0)))

    def test_two_args(self):
        for kind in ("add", "sub", "max", "min"):
            self.check((kind, (0, 1), ()), ((2, 1), -7), [
                const("", 1), ("sub", (0, 2), ()), const("", 32768), ("mul", (3, 4), ()), ("shift", (5,), (17,)),
                const("", -2), ("sub", (1, 7), ()), const("", 43691), ("mul", (8, 9), ()), ("shift", (10,), (18,)),
                (kind, (6, 11), ()), const("", -7), ("add", (12, 13), ()), ("clamp", (14,), (-32, 31))], 15)

    def test_two_args_without_zeros(self):
        pairs = (((1, 2), 0), ((1, 1), 0))
        self.check(("add", (0, 1), ()), ((1, 2), 0), [
            const("", 32768), ("mul", (1, 2), ()), ("shift", (3,), (14,)), ("add", (0, 4), ()), ("clamp", (5,), (-32, 31))],
            6, pairs)
        self.check(("max", (0, 0), ()), ((1, 2), 0), [("max", (0, 0), ()), ("clamp", (2,), (-32, 31))], 3, pairs)

    def test_join(self):
        self.check(("join", (1, 1), ("k",)), ((1, 3), 0), [
            const("", -2), ("sub", (1, 2), ()), const("", -2), ("sub", (1, 4), ()), ("join", (3, 5), ("k",)),
            ("clamp", (6,), (-32, 31))], 7)

    def test_same_arg_twice(self):
        """Everything is made for each of both args."""
        self.check(("sub", (0, 0), ()), ((2, 1), 0), [
            const("", 1), ("sub", (0, 2), ()), const("", 32768), ("mul", (3, 4), ()), ("shift", (5,), (17,)),
            const("", 1), ("sub", (0, 7), ()), const("", 32768), ("mul", (8, 9), ()), ("shift", (10,), (17,)),
            ("sub", (6, 11), ()), ("clamp", (12,), (-32, 31))], 13)
        self.check(("mul", (1, 1), ()), ((1, 1), 0), [
            const("", -2), ("sub", (1, 2), ()), const("", -2), ("sub", (1, 4), ()), ("mul", (3, 5), ()),
            const("", 58254), ("mul", (6, 7), ()), ("shift", (8,), (19,)), ("clamp", (9,), (-32, 31))], 10)

    def test_products(self):
        for kind, info in (("mul", ()), ("dot", ("k",))):
            self.check((kind, (0, 1), info), ((2, 1), 3), [
                const("", 1), ("sub", (0, 2), ()), const("", -2), ("sub", (1, 4), ()), (kind, (3, 5), info),
                const("", 43691), ("mul", (6, 7), ()), ("shift", (8,), (19,)),
                const("", 3), ("add", (9, 10), ()), ("clamp", (11,), (-32, 31))], 12)

    def test_one_arg(self):
        for kind, info in (("neg", ()), ("sum", ("k",))):
            self.check((kind, (0,), info), ((1, 1), 2), [
                const("", 1), ("sub", (0, 2), ()), (kind, (3,), info), const("", 32768), ("mul", (4, 5), ()),
                ("shift", (6,), (16,)), const("", 2), ("add", (7, 8), ()), ("clamp", (9,), (-32, 31))], 10)
            self.check((kind, (0,), info), ((1, 2), 0), [(kind, (0,), info), ("clamp", (2,), (-32, 31))], 3, (((1, 2), 0), B))

    def test_moving(self):
        for node in (
                ("order", (0,), ("ki",)), ("rename", (0,), ("k", "z")), ("spread", (0,), ("z", 2)), ("cut", (0,), ("k", 1, 2)),
                ("window", (0,), ("k", "z", 2, 1))):
            self.check(node, A, [node], 2)

    def test_pad(self):
        node = ("pad", (0,), ("k", 1, 2))
        self.check(node, A, [
            const("", 1), ("sub", (0, 2), ()), ("pad", (3,), ("k", 1, 2)), const("", 1), ("add", (4, 5), ())], 6)
        self.check(node, ((1, 2), 0), [node], 2, (((1, 2), 0), B))

    def test_sources(self):
        graph = graph_of([const("k4", -3, 0, 1, 3), ("pad", (0,), ("k", 0, 1))], 1, 0, 1)
        nodes, outs = quantize_graph(graph, (((2, 3), 1),) * 2, 4)
        self.assertEqual(nodes[0], const("k4", -3, 1, 3, 6))
        self.assertEqual(outs, (5, 0, 5))

    def test_multiplier_near_one(self):
        """Times f is nothing also where f is not 1, but its multiplier is."""
        pairs = (((100001, 1), 0), B)
        self.check(("neg", (0,), ()), ((100000, 1), 0), [("neg", (0,), ()), ("clamp", (2,), (-32, 31))], 3, pairs)


class Values(unittest.TestCase):
    def test_random_models(self):
        checked = 0
        for number, (graph, table, bits) in enumerate(random_models(range(200))):
            for feeds in (random_feeds(graph, number), end_feeds(graph, number)):
                if error_of(quantize_graph, graph, table, bits) is not None:
                    continue
                coded = encode_feeds(graph, table, bits, feeds)
                result = evaluate(quantize_graph(graph, table, bits), coded)
                self.assertEqual(result, naive_codes.codes_of(graph, table, bits, feeds))
                told = decode_outputs(graph, table, bits, result)
                for out, row, codes in zip(graph[1], told, result):
                    means = [naive_codes.meaning(table[out], n) for n in codes]
                    self.assertEqual(row, tuple((n.numerator, n.denominator) for n in means))
                checked += 1
        self.assertGreater(checked, 200)


class Errors(unittest.TestCase):
    GRAPH = graph_of([tensor("k2", -3, 3), ("neg", (0,), ())])
    TABLE = (((1, 1), 0), ((1, 1), 0))

    def test_order(self):
        for graph, table, bits, expected in (
                (graph_of([scalar(3, 1)]), (), 2, RangeError), (graph_of([scalar(0, 1), ("shift", (0,), (1,))]), (), 2, KindError),
                (self.GRAPH, (), 2, RangeError), (self.GRAPH, (), 13, RangeError), (self.GRAPH, (), 3, TableError),
                (self.GRAPH, self.TABLE[:1], 3, TableError), (self.GRAPH, self.TABLE, 3, None)):
            self.assertIs(error_of(quantize_graph, graph, table, bits), expected)
            self.assertIs(error_of(encode_feeds, graph, table, bits, ((0, 0),)), expected)
            self.assertIs(error_of(decode_outputs, graph, table, bits, ((0, 0),)), expected)

    def test_multipliers(self):
        """A factor may be too great or too small, for any arg of any node; the tables are right all the same."""
        graph = graph_of([scalar(0, 0), ("neg", (0,), ())])
        for first, second, expected in (
                ((32767, 1), (1, 1), None), ((32768, 1), (1, 1), TableError), ((1, 1), (1 << 31, 1), None),
                ((1, 1), ((1 << 31) + 1, 1), TableError), ((1 << 40, 1), (1, 1), TableError)):
            table = ((first, 0), (second, 0))
            self.assertIs(error_of(quantize_graph, graph, table, 8), expected)
            self.assertIs(error_of(encode_feeds, graph, table, 8, ((0,),)), None)
        graph = graph_of([scalar(0, 0), scalar(0, 0), ("mul", (0, 1), ())])
        for scales, expected in ((((300, 1), (200, 1), (2, 1)), None), (((300, 1), (300, 1), (2, 1)), TableError)):
            self.assertIs(error_of(quantize_graph, graph, tuple((scale, 0) for scale in scales), 8), expected)
        graph = graph_of([scalar(0, 0), scalar(0, 0), ("add", (0, 1), ())])
        for scales, expected in ((((1, 1), (40000, 1), (2, 1)), None), (((1, 1), (80000, 1), (2, 1)), TableError)):
            self.assertIs(error_of(quantize_graph, graph, tuple((scale, 0) for scale in scales), 8), expected)

    def test_multiplier_before_the_result(self):
        """A result that is too large is told behind a multiplier of any node."""
        nodes = [scalar(0, 0)] + [("neg", (at,), ()) for at in range(150)]
        table = [((1, 1), 1)] * 151
        self.assertIs(error_of(quantize_graph, graph_of(nodes), tuple(table), 8), TooLarge)
        table[-1] = ((1 << 32, 1), 1)
        self.assertIs(error_of(quantize_graph, graph_of(nodes), tuple(table), 8), TableError)

    def test_too_much_work(self):
        graph = graph_of([tensor("i9k9", 0, 0)] + [("neg", (at,), ()) for at in range(99)])
        check_graph(graph)
        self.assertIsNone(error_of(quantize_graph, graph, (((1, 1), 0),) * 100, 8))
        self.assertIs(error_of(quantize_graph, graph, (((1, 1), 1),) * 100, 8), TooLarge)


class Feeds(unittest.TestCase):
    GRAPH = graph_of([tensor("k2", -3, 3), const("", 1), scalar(0, 1), ("add", (0, 2), ())], 3, 0)
    TABLE = (((3, 4), 0), ((1, 1), 0), ((1, 3), -4), ((4, 3), -1))

    def test_codes(self):
        self.assertEqual(encode_feeds(self.GRAPH, self.TABLE, 4, ((-3, 2), (1,))), ((-4, 3), (-1,)))

    def test_feed_errors(self):
        for feeds, expected in (
                ((), FeedError), (((0, 0),), FeedError), (((0,), (0,)), FeedError), (((0, 9), (0, 0)), RangeError),
                (((0, 0), (0, 0)), FeedError), (((0, 0), (2,)), RangeError), (((0, 0), (0,), (0,)), FeedError)):
            self.assertIs(error_of(encode_feeds, self.GRAPH, self.TABLE, 4, feeds), expected)

    def test_meanings(self):
        self.assertEqual(decode_outputs(self.GRAPH, self.TABLE, 4, ((-8, 7), (-8, 0))), (((-28, 3), (32, 3)), ((-6, 1), (0, 1))))

    def test_code_errors(self):
        for codes, expected in (
                ((), FeedError), (((0, 0),), FeedError), (((0, 0), (0, 0), ()), FeedError), (((99, 99), (0,)), FeedError),
                (((99,), (0, 0)), FeedError), (((0, 0), (0, 8)), RangeError), (((0, -9), (0, 0)), RangeError), (((7, -8), (7, -8)), None)):
            self.assertIs(error_of(decode_outputs, self.GRAPH, self.TABLE, 4, codes), expected)

    def test_table_first(self):
        self.assertIs(error_of(encode_feeds, self.GRAPH, self.TABLE[:3], 4, ()), TableError)
        self.assertIs(error_of(decode_outputs, self.GRAPH, self.TABLE[:3], 4, ()), TableError)
