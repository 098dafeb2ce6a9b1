"""Point 505: the terms of the elements of a graph."""

import unittest

from tensorworks.errors import FormError, KindError
from tensorworks.graph_terms import graph_terms
from tensorworks.graphs import check_graph
from tensorworks.kinds import KINDS
from tensorworks.meaning import evaluate_all
from tensorworks.terms import Terms
from tests.helpers import const, error_of, graph_of, random_feeds, random_graph, scalar, tensor


class Terms505(unittest.TestCase):
    def test_inputs_and_consts(self):
        table = Terms()
        graph = graph_of([const("i2", 4, -5), tensor("k2", -1, 3), scalar(0, 9), scalar(7, 7)])
        rows = graph_terms(table, graph)
        self.assertEqual(rows[0], (table.number(4), table.number(-5)))
        self.assertEqual(rows[1], (table.variable((0, 0), -1, 3), table.variable((0, 1), -1, 3)))
        self.assertEqual(rows[2], (table.variable((1, 0), 0, 9),))
        self.assertEqual(rows[3], (table.number(7),))
        self.assertIs(error_of(table.variable, (2, 0), 7, 8), FormError)
        self.assertEqual(graph_terms(table, graph), rows)

    def test_errors_of_the_graph(self):
        self.assertIs(error_of(graph_terms, Terms(), ((), ())), FormError)
        self.assertIs(error_of(graph_terms, Terms(), graph_of([("nothing", (), ())])), KindError)

    def test_sums_do_not_depend_on_order(self):
        nodes = [tensor("i2k3"), ("sum", (0,), ("i",)), ("sum", (1,), ("k",)), ("sum", (0,), ("k",)), ("sum", (3,), ("i",))]
        rows = graph_terms(Terms(), graph_of(nodes))
        self.assertEqual(rows[2], rows[4])

    def test_dot_and_sum_of_products(self):
        nodes = [tensor("i2k3"), tensor("k3"), ("dot", (0, 1), ("k",)), ("mul", (0, 1), ()), ("sum", (3,), ("k",))]
        rows = graph_terms(Terms(), graph_of(nodes))
        self.assertEqual(rows[2], rows[4])

    def test_peak_from_the_first_on(self):
        table = Terms()
        rows = graph_terms(table, graph_of([tensor("k3"), ("peak", (0,), ("k",))]))
        a, b, c = rows[0]
        made = table.make("max", (table.make("max", (a, b), ()), c), ())
        self.assertEqual(rows[1], (made,))

    def test_peak_of_sums(self):
        """A peak over parts that are max themselves keeps the form of the nested max."""
        table = Terms()
        nodes = [tensor("k3"), scalar(-5, 5), ("min", (0, 1), ()), ("peak", (2,), ("k",))]
        rows = graph_terms(table, graph_of(nodes))
        a, b, c = rows[2]
        self.assertEqual(rows[3], (table.make("max", (table.make("max", (a, b), ()), c), ()),))

    def test_gather(self):
        table = Terms()
        nodes = [tensor("k3"), scalar(-9, 9), ("gather", (0, 1), ("k",)), scalar(1, 2), ("gather", (0, 3), ("k",))]
        rows = graph_terms(table, graph_of(nodes))
        self.assertEqual(rows[2], (table.pick(rows[0], table.make("clamp", rows[1], (0, 2))),))
        self.assertEqual(rows[4], (table.pick(rows[0], rows[3][0]),))

    def test_fold_and_pad(self):
        table = Terms()
        nodes = [tensor("i2k2"), ("fold", (0,), ("i", "k", 1, 4)), ("pad", (0,), ("k", 1, 0))]
        rows = graph_terms(table, graph_of(nodes))
        a, b, c, d = rows[0]
        zero = table.number(0)
        self.assertEqual(rows[1], (a, table.make("add", (b, c), ()), d, zero))
        self.assertEqual(rows[2], (zero, a, b, zero, c, d))

    def test_random_graphs(self):
        met = set()
        for seed in range(120):
            graph = random_graph(seed, 12, most=36)
            met.update(node[0] for node in graph[0])
            self.compare(graph)
        self.assertEqual(met, set(KINDS))

    def compare(self, graph, turns=3):
        """The values of the terms are the elements, and their intervals lie in those of the nodes."""
        table = Terms()
        rows = graph_terms(table, graph)
        domains = check_graph(graph)
        for row, (_, low, high) in zip(rows, domains):
            for term in row:
                least, most = table.span(term)
                self.assertTrue(low <= least and most <= high)
        for turn in range(turns):
            feeds = random_feeds(graph, turn)
            values = {(k, e): n for k, feed in enumerate(feeds) for e, n in enumerate(feed)}
            made = tuple(tuple(table.value(term, values) for term in row) for row in rows)
            self.assertEqual(made, evaluate_all(graph, feeds))

    def test_many_nodes_in_a_row(self):
        nodes = [scalar(-9, 9), scalar(-2, 2)]
        for at in range(1, 398, 3):
            nodes += [("mul", (at, 0), ()), ("clamp", (at + 1,), (-50, 40)), ("max", (at + 2, 1), ())]
        self.compare(graph_of(nodes[:400]))
        nodes = [tensor("k3"), scalar(0, 9)]
        for at in range(1, 399, 2):
            nodes += [("gather", (0, at), ("k",)), ("clamp", (at + 1,), (0, 9))]
        self.compare(graph_of(nodes[:400]))

    def test_much_work(self):
        a = ("input", (), ((("i", 16), ("k", 16)), -1, 1))
        b = ("input", (), ((("k", 16), ("j", 16)), -1, 1))
        nodes = [a, b]
        here = 0
        while len(nodes) < 22:
            nodes += [("dot", (here, 1), ("k",)), ("rename", (len(nodes),), ("j", "k"))]
            here = len(nodes) - 1
        graph = graph_of(nodes)
        table = Terms()
        rows = graph_terms(table, graph)
        feeds = random_feeds(graph, 1)
        values = {(k, e): n for k, feed in enumerate(feeds) for e, n in enumerate(feed)}
        expected = evaluate_all(graph, feeds)
        self.assertEqual([table.value(rows[4][e], values) for e in (0, 255)], [expected[4][0], expected[4][255]])
        self.assertEqual(table.value(rows[-1][9], values), expected[-1][9])
