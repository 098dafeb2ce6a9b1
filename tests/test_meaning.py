"""Points 202 and 208: what graphs compute."""

import unittest

from tensorworks.errors import FeedError, FormError, RangeError
from tensorworks.graphs import check_graph
from tensorworks.kinds import KINDS
from tensorworks.meaning import evaluate, evaluate_all
from tests import naive
from tests.helpers import const, error_of, graph_of, random_feeds, random_graph, scalar, tensor

A = (1, 2, 3, -4, 5, -6)


def result(node, *more):
    """Return what a node makes of A with the axes i2k3 and of other tensors."""
    inputs = [tensor("i2k3")] + [tensor(word, -99, 99) for word, _ in more]
    return evaluate(graph_of(inputs + [node]), (A,) + tuple(data for _, data in more))[0]


class Elements(unittest.TestCase):
    """Each kind, on numbers worked out by hand."""

    def test_pointwise(self):
        two = ("i2", (10, 20))
        self.assertEqual(result(("add", (0, 1), ()), two), (11, 12, 13, 16, 25, 14))
        self.assertEqual(result(("add", (1, 0), ()), two), (11, 12, 13, 16, 25, 14))
        self.assertEqual(result(("sub", (1, 0), ()), two), (9, 8, 7, 24, 15, 26))
        self.assertEqual(result(("mul", (0, 1), ()), two), (10, 20, 30, -80, 100, -120))
        three = ("k3", (1, -2, 3))
        self.assertEqual(result(("max", (0, 1), ()), three), (1, 2, 3, 1, 5, 3))
        self.assertEqual(result(("min", (0, 1), ()), three), (1, -2, 3, -4, -2, -6))
        self.assertEqual(result(("less", (0, 1), ()), three), (0, 0, 0, 1, 0, 1))
        # 1, -2, 3 against the columns of A; the axes are k and then i
        self.assertEqual(result(("less", (1, 0), ()), three), (0, 0, 1, 1, 0, 0))
        self.assertEqual(result(("equal", (0, 1), ()), three), (1, 0, 1, 0, 0, 0))
        self.assertEqual(result(("neg", (0,), ())), (-1, -2, -3, 4, -5, 6))
        self.assertEqual(result(("clamp", (0,), (-4, 2))), (1, 2, 2, -4, 2, -4))
        self.assertEqual(result(("shift", (0,), (2,))), (0, 1, 1, -1, 1, -1))
        self.assertEqual(result(("where", (1, 0, 2), ()), ("i2", (0, -3)), ("k3", (7, 8, 9))), (7, 8, 9, -4, 5, -6))

    def test_order_of_axes(self):
        # k comes first, because it is the first arg that has it first
        self.assertEqual(result(("sub", (1, 0), ()), ("k3", (0, 0, 0))), (-1, 4, -2, -5, -3, 6))

    def test_reducing(self):
        self.assertEqual(result(("sum", (0,), ("k",))), (6, -5))
        self.assertEqual(result(("sum", (0,), ("i",))), (-3, 7, -3))
        self.assertEqual(result(("peak", (0,), ("k",))), (3, 5))
        self.assertEqual(result(("peak", (0,), ("i",))), (1, 5, 3))
        self.assertEqual(result(("dot", (0, 1), ("k",)), ("k3j2", (1, 0, 0, 1, 2, 2))), (7, 8, -16, -7))
        self.assertEqual(result(("dot", (0, 1), ("i",)), ("i2k3", (1, 1, 1, 2, 2, 2))), (-7, 12, -9))
        self.assertEqual(result(("fold", (0,), ("i", "k", 1, 5))), (1, -2, 8, -6, 0))
        self.assertEqual(result(("fold", (0,), ("i", "k", 4, 8))), (1, 2, 3, 0, -4, 5, -6, 0))
        self.assertEqual(result(("fold", (0,), ("k", "i", 2, 6))), (1, -4, 2, 5, 3, -6))

    def test_moving(self):
        self.assertEqual(result(("order", (0,), ("ki",))), (1, -4, 2, 5, 3, -6))
        self.assertEqual(result(("order", (0,), ("ik",))), A)
        self.assertEqual(result(("rename", (0,), ("i", "z"))), A)
        self.assertEqual(result(("spread", (0,), ("z", 2))), (1, 1, 2, 2, 3, 3, -4, -4, 5, 5, -6, -6))
        self.assertEqual(result(("cut", (0,), ("k", 1, 2))), (2, 3, 5, -6))
        self.assertEqual(result(("cut", (0,), ("i", 1, 1))), (-4, 5, -6))
        self.assertEqual(result(("pad", (0,), ("k", 1, 2))), (0, 1, 2, 3, 0, 0, 0, -4, 5, -6, 0, 0))
        self.assertEqual(result(("pad", (0,), ("i", 1, 0))), (0, 0, 0) + A)
        self.assertEqual(result(("join", (0, 1), ("k",)), ("i2k1", (8, 9))), (1, 2, 3, 8, -4, 5, -6, 9))
        self.assertEqual(result(("join", (1, 0), ("i",)), ("i1k3", (7, 8, 9))), (7, 8, 9) + A)
        self.assertEqual(result(("window", (0,), ("k", "w", 2, 1))), (1, 2, 2, 3, -4, 5, 5, -6))
        self.assertEqual(result(("window", (0,), ("k", "w", 1, 2))), (1, 3, -4, -6))
        self.assertEqual(result(("window", (0,), ("i", "w", 2, 1))), A)

    def test_gather(self):
        self.assertEqual(result(("gather", (0, 1), ("k",)), ("", (1,))), (2, 5))
        self.assertEqual(result(("gather", (0, 1), ("k",)), ("w4", (2, 0, -5, 9))), (3, 1, 1, 3, -6, -4, -4, -6))
        self.assertEqual(result(("gather", (0, 1), ("i",)), ("w2", (1, -1))), (-4, 5, -6, 1, 2, 3))

    def test_sources(self):
        graph = graph_of([const("i2", 5, -6), scalar(0, 9)], 0, 1)
        self.assertEqual(evaluate(graph, ((7,),)), ((5, -6), (7,)))


class Evaluate(unittest.TestCase):
    def test_example(self):
        nodes = (("input", (), ((("k", 3),), -9, 9)), ("sum", (0,), ("k",)))
        self.assertEqual(evaluate((nodes, (1, 0)), ((1, 2, -4),)), ((-1,), (1, 2, -4)))
        self.assertEqual(evaluate_all((nodes, (1,)), ((1, 2, -4),)), ((1, 2, -4), (-1,)))
        self.assertEqual(evaluate((nodes, (1, 1)), ((1, 2, -4),)), ((-1,), (-1,)))

    def test_errors(self):
        graph = graph_of([tensor("k2", -3, 4), scalar(0, 1), ("add", (0, 1), ())])
        for call in (evaluate, evaluate_all):
            self.assertIs(error_of(call, graph, ((-3, 4), (1,))), None)
            self.assertIs(error_of(call, graph, ((-3, 4),)), FeedError)
            self.assertIs(error_of(call, graph, ((-3, 4), (1,), ())), FeedError)
            self.assertIs(error_of(call, graph, ((9, 9),)), FeedError)
            self.assertIs(error_of(call, graph, ((9,), (9,))), FeedError)
            self.assertIs(error_of(call, graph, ((9, 9, 9), (1,))), FeedError)
            self.assertIs(error_of(call, graph, ((-4, 4), (1, 1))), RangeError)
            self.assertIs(error_of(call, graph, ((-3, 5), (1,))), RangeError)
            self.assertIs(error_of(call, graph, ((-3, 4), (2,))), RangeError)
            self.assertIs(error_of(call, graph, ((-3, 4), ())), FeedError)
            self.assertIs(error_of(call, ((), ()), ((1,),)), FormError)

    def test_random_graphs(self):
        met = set()
        for seed in range(150):
            graph = random_graph(seed, 14)
            met.update(node[0] for node in graph[0])
            domains = check_graph(graph)
            for turn in range(3):
                feeds = random_feeds(graph, turn)
                values = evaluate_all(graph, feeds)
                self.assertEqual(values, naive.values_of(graph, feeds))
                self.assertEqual(evaluate(graph, feeds), tuple(values[out] for out in graph[1]))
                for row, (_, low, high) in zip(values, domains):
                    self.assertTrue(all(low <= n <= high for n in row))
        self.assertEqual(met, set(KINDS))

    def test_many_nodes_and_much_work(self):
        nodes = [("input", (), ((("i", 16), ("j", 16)), -1, 1))] + [("neg", (at,), ()) for at in range(195)]
        self.assertEqual(evaluate(graph_of(nodes), ((1, 0) * 128,)), ((-1, 0) * 128,))
        nodes = [scalar(-1, 1)] + [("neg", (at,), ()) for at in range(399)]
        self.assertEqual(evaluate(graph_of(nodes), ((1,),)), ((-1,),))
