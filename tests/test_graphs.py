"""Points 4, 204 and 205: the work of a graph and the errors of a graph."""

import unittest

from tensorworks.errors import AxisError, FormError, KindError, RangeError, RankError, TooLarge, TooWide
from tensorworks.graphs import check_graph, inputs_of, work_of
from tests.helpers import WIDE, const, error_of, graph_of, scalar, shape, tensor

BIG = ("input", (), ((("i", 16), ("j", 16)), 0, 1))


def row_of(many):
    """Return a graph of so many nodes."""
    return graph_of([scalar(-1, 1)] + [("neg", (at,), ()) for at in range(many - 1)])


def working(extra):
    """Return a graph with the work 195 * 256 = 49920 and extra, up to 256."""
    nodes = [BIG] + [("neg", (at,), ()) for at in range(195)]
    return graph_of(nodes + [("input", (), ((("k", extra),), 0, 1)), ("neg", (196,), ())])


class Check(unittest.TestCase):
    def test_example(self):
        graph = ((("input", (), ((("i", 2),), -3, 4)), ("mul", (0, 0), ())), (1,))
        self.assertEqual(check_graph(graph), (((("i", 2),), -3, 4), ((("i", 2),), -12, 16)))

    def test_outputs(self):
        node = scalar(0, 1)
        self.assertIs(error_of(check_graph, ((), ())), FormError)
        self.assertIs(error_of(check_graph, ((node,), ())), FormError)
        self.assertIs(error_of(check_graph, ((node,), (1,))), FormError)
        self.assertIs(error_of(check_graph, ((node,), (0, -1))), FormError)
        self.assertIs(error_of(check_graph, ((node,), (0, 0, 0))), None)

    def test_number_of_nodes(self):
        self.assertEqual(len(check_graph(row_of(400))), 400)
        self.assertIs(error_of(check_graph, row_of(401)), TooLarge)

    def test_work(self):
        self.assertEqual(work_of(working(16)), 49936)
        nodes = working(16)[0][:196]
        full = graph_of(nodes + (tensor("a8b5c2"), ("neg", (196,), ())))
        self.assertEqual(work_of(full), 50000)
        above = graph_of(nodes + (tensor("a9b9"), ("neg", (196,), ())))
        self.assertIs(error_of(check_graph, above), TooLarge)
        self.assertIs(error_of(work_of, above), TooLarge)

    def test_order(self):
        bad = ("nothing", (), ())
        self.assertIs(error_of(check_graph, (row_of(400)[0] + (bad,), ())), TooLarge)
        self.assertIs(error_of(check_graph, ((bad, scalar(1, 0)), ())), KindError)
        self.assertIs(error_of(check_graph, ((scalar(1, 0), bad), ())), RangeError)
        self.assertIs(error_of(check_graph, ((scalar(0, 2 * WIDE),), ())), TooWide)
        self.assertIs(error_of(check_graph, (working(16)[0] + tuple(("neg", (0,), ()) for _ in range(9)), ())), FormError)
        self.assertIs(error_of(check_graph, ((scalar(0, 1), ("sum", (0,), ("k",)), bad), (9,))), AxisError)

    def test_args_are_earlier(self):
        self.assertIs(error_of(check_graph, graph_of([scalar(0, 1), ("neg", (1,), ())])), FormError)
        self.assertIs(error_of(check_graph, graph_of([("neg", (1,), ()), scalar(0, 1)])), FormError)


class Work(unittest.TestCase):
    def test_each_kind(self):
        a = tensor("i2k3")
        for node, work in (
            (("neg", (0,), ()), 6), (("add", (0, 1), ()), 24), (("where", (2, 0, 1), ()), 24),
            (("sum", (0,), ("k",)), 6), (("peak", (0,), ("i",)), 6), (("fold", (0,), ("i", "k", 3, 9)), 6),
            (("dot", (0, 1), ("k",)), 24), (("order", (0,), ("ki",)), 6), (("rename", (0,), ("i", "z")), 6),
            (("spread", (0,), ("z", 5)), 30), (("cut", (0,), ("k", 0, 2)), 4), (("pad", (0,), ("k", 1, 1)), 10),
            (("join", (0, 0), ("k",)), 12), (("window", (0,), ("k", "w", 2, 1)), 8),
            (("gather", (0, 3), ("i",)), 15), (tensor("i9k9"), 0), (const("i2", 1, 2), 0),
        ):
            graph = graph_of([a, tensor("k3j4"), tensor("i2"), tensor("z5"), node])
            self.assertEqual(work_of(graph), work, node)

    def test_sum_over_nodes(self):
        graph = graph_of([tensor("i2k3"), ("neg", (0,), ()), ("sum", (1,), ("k",)), ("sum", (2,), ("i",))], 0)
        self.assertEqual(work_of(graph), 6 + 6 + 2)


class Inputs(unittest.TestCase):
    def test_inputs(self):
        graph = graph_of([const("", 1), scalar(0, 1), ("neg", (0,), ()), scalar(0, 1)])
        self.assertEqual(inputs_of(graph), (1, 3))
        self.assertEqual(inputs_of(graph_of([const("", 1)])), ())

    def test_errors_of_the_graph(self):
        for call in (inputs_of, work_of):
            self.assertIs(error_of(call, ((), ())), FormError)
            self.assertIs(error_of(call, graph_of([("input", (), (shape("a1b1c1d1e1"), 0, 1))])), RankError)
