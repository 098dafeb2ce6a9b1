"""Point 404: prune, fold_constants and share."""

import unittest

from tensorworks.errors import FormError, KindError
from tensorworks.graphs import check_graph
from tensorworks.kinds import KINDS
from tensorworks.meaning import evaluate
from tensorworks.tidying import fold_constants, prune, share
from tests.helpers import const, error_of, graph_of, random_feeds, random_graph, scalar, tensor

S = scalar(-9, 9)


def neg(a):
    return ("neg", (a,), ())


class Prune(unittest.TestCase):
    def test_needed(self):
        nodes = [S, const("", 4), S, neg(1), neg(0), neg(3), ("add", (4, 0), ()), neg(6)]
        made = prune(graph_of(nodes, 6, 4, 6))
        self.assertEqual(made, graph_of([S, S, neg(0), ("add", (2, 0), ())], 3, 2, 3))

    def test_nothing_to_do(self):
        graph = graph_of([S, neg(0)])
        self.assertEqual(prune(graph), graph)
        self.assertEqual(prune(graph_of([S, S, const("", 1)])), graph_of([S, S, const("", 1)]))

    def test_const_not_needed(self):
        self.assertEqual(prune(graph_of([const("", 1), S, neg(0)], 1)), graph_of([S], 0))

    def test_many_nodes(self):
        nodes = [S] + [neg(at) for at in range(399)]
        self.assertEqual(prune(graph_of(nodes)), graph_of(nodes))
        self.assertEqual(prune(graph_of(nodes, 0)), graph_of([S]))


class Fold(unittest.TestCase):
    def test_in_order(self):
        nodes = [const("k2", 1, 2), S, const("i2", 5, -5), ("mul", (0, 2), ()), neg(3), ("add", (4, 1), ()), ("sum", (4,), ("i",))]
        made = fold_constants(graph_of(nodes, 5, 6))
        self.assertEqual(made, graph_of([
            const("k2", 1, 2), S, const("i2", 5, -5), const("k2i2", 5, -5, 10, -10), const("k2i2", -5, 5, -10, 10),
            ("add", (4, 1), ()), const("k2", 0, 0)], 5, 6))

    def test_not_of_inputs(self):
        graph = graph_of([scalar(3, 3), neg(0), ("where", (1, 0, 0), ())])
        self.assertEqual(fold_constants(graph), graph)

    def test_some_args_only(self):
        graph = graph_of([const("", 1), S, ("add", (0, 1), ()), ("where", (0, 0, 1), ())])
        self.assertEqual(fold_constants(graph), graph)

    def test_kinds(self):
        for seed in range(40):
            graph = random_graph(seed, 30, KINDS[1:], 40, 10 ** 6)
            made = fold_constants(graph)
            feeds = random_feeds(graph, 1)
            self.assertEqual(evaluate(made, feeds), evaluate(graph, feeds))
            for at, (kind, args, _) in enumerate(made[0]):
                fixed = args and all(made[0][arg][0] == "const" for arg in args)
                self.assertFalse(fixed, at)


class Share(unittest.TestCase):
    def test_equal_nodes(self):
        nodes = [S, S, neg(0), neg(0), neg(1), ("add", (2, 3), ()), ("add", (3, 2), ()), const("", 4), const("", 4),
                 ("clamp", (0,), (1, 2)), ("clamp", (0,), (1, 3)), ("clamp", (0,), (1, 2))]
        made = share(graph_of(nodes, 3, 6, 8, 11, 10))
        self.assertEqual(made, graph_of(
            [S, S, neg(0), neg(1), ("add", (2, 2), ()), const("", 4), ("clamp", (0,), (1, 2)), ("clamp", (0,), (1, 3))],
            2, 4, 5, 6, 7))

    def test_after_args_were_replaced(self):
        nodes = [S, neg(0), neg(0), neg(1), neg(2), ("sub", (3, 4), ())]
        self.assertEqual(share(graph_of(nodes)), graph_of([S, neg(0), neg(1), ("sub", (2, 2), ())]))

    def test_args_in_another_order(self):
        graph = graph_of([S, S, ("add", (0, 1), ()), ("add", (1, 0), ())])
        self.assertEqual(share(graph), graph)

    def test_inputs_stay(self):
        graph = graph_of([S, S, S], 2, 1)
        self.assertEqual(share(graph), graph)

    def test_consts_of_other_shapes(self):
        graph = graph_of([const("i2", 1, 1), const("k2", 1, 1), const("i2", 1, 2)], 0, 1, 2)
        self.assertEqual(share(graph), graph)

    def test_unused_nodes_stay(self):
        graph = graph_of([S, neg(0), const("", 3)], 0)
        self.assertEqual(share(graph), graph)


class All(unittest.TestCase):
    def test_outputs_keep_their_values(self):
        for seed in range(80):
            graph = random_graph(seed, 20)
            feeds = random_feeds(graph, seed)
            for call in (prune, fold_constants, share):
                made = call(graph)
                check_graph(made)
                self.assertEqual(evaluate(made, feeds), evaluate(graph, feeds))

    def test_graph_first(self):
        for call in (prune, fold_constants, share):
            self.assertIs(error_of(call, ((), ())), FormError)
            self.assertIs(error_of(call, graph_of([("nothing", (), ()), tensor("k2")])), KindError)
