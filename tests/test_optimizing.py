"""Point 405: cost and optimize."""

import unittest

from tensorworks.errors import FormError, RangeError, RuleError
from tensorworks.graphs import check_graph, work_of
from tensorworks.meaning import evaluate
from tensorworks.optimizing import cost_of, optimize
from tensorworks.rewriting import replay, sites
from tensorworks.rules import RULES, apply_rule
from tensorworks.tidying import prune
from tests.helpers import const, error_of, graph_of, random_feeds, random_graph, scalar, tensor

S = scalar(-9, 9)


def neg(a):
    return ("neg", (a,), ())


def least_cost(graph):
    """Return the least cost after any single step."""
    costs = [cost_of(graph)]
    for rule in RULES:
        for node in sites(graph, rule):
            costs.append(cost_of(apply_rule(graph, rule, node)))
    return min(costs)


class Cost(unittest.TestCase):
    def test_pruned(self):
        graph = graph_of([tensor("k3"), neg(0), neg(1), ("sum", (1,), ("k",))], 3)
        self.assertEqual(cost_of(graph), 6)
        self.assertEqual(work_of(graph), 9)
        self.assertEqual(cost_of(graph_of([tensor("k3"), neg(0)], 0)), 0)

    def test_random_graphs(self):
        for seed in range(30):
            graph = random_graph(seed, 15)
            self.assertEqual(cost_of(graph), work_of(prune(graph)))

    def test_errors(self):
        self.assertIs(error_of(cost_of, ((), ())), FormError)


class Optimize(unittest.TestCase):
    def check(self, graph, fuel):
        """Check what the point promises, and return the steps and the result."""
        steps, result = optimize(graph, fuel)
        self.assertIsInstance(steps, tuple)
        self.assertLessEqual(len(steps), fuel)
        self.assertEqual(replay(graph, steps), result)
        self.assertLessEqual(cost_of(result), cost_of(graph))
        costs = [cost_of(replay(graph, steps[:many])) for many in range(len(steps) + 1)]
        self.assertEqual(costs, sorted(set(costs), reverse=True))
        check_graph(result)
        feeds = random_feeds(graph, fuel)
        self.assertEqual(evaluate(result, feeds), evaluate(graph, feeds))
        if len(steps) < fuel:
            self.assertEqual(least_cost(result), cost_of(result))
        return steps, result

    def test_random_graphs(self):
        better = 0
        for seed in range(60):
            graph = random_graph(seed, 16, ("add", "mul", "neg", "sum", "dot", "sub", "max", "clamp", "order", "where",
                                            "less", "pad", "cut", "const", "input"))
            _, result = self.check(graph, 50)
            better += cost_of(result) < cost_of(graph)
            self.check(graph, 2)
        self.assertGreater(better, 20)

    def test_a_factor_out(self):
        a, b, c = tensor("i4k4"), tensor("i4k4"), tensor("i4k4")
        graph = graph_of([a, b, c, ("mul", (0, 1), ()), ("mul", (0, 2), ()), ("add", (3, 4), ())])
        _, result = self.check(graph, 50)
        self.assertEqual(cost_of(result), 32)

    def test_matrices_and_a_vector(self):
        nodes = [tensor("i8j8"), tensor("j8k8"), tensor("k8"), ("dot", (0, 1), ("j",)), ("dot", (3, 2), ("k",))]
        _, result = self.check(graph_of(nodes), 50)
        self.assertEqual(cost_of(result), 128)

    def test_nodes_that_others_use(self):
        nodes = [S, neg(0), neg(1), ("mul", (1, 2), ())]
        _, result = self.check(graph_of(nodes), 50)
        self.assertEqual(cost_of(result), 2)
        self.check(graph_of(nodes, 1, 2, 3), 50)

    def test_each_rule_that_lowers(self):
        x, z = tensor("i2k3"), tensor("k3")
        for nodes in (
            [x, const("k3", 0, 0, 0), ("add", (0, 1), ())], [x, const("", 1), ("mul", (0, 1), ())],
            [x, neg(0), ("add", (0, 1), ())], [x, ("order", (0,), ("ki",)), ("order", (1,), ("ik",))],
            [x, ("order", (0,), ("ik",))], [x, ("clamp", (0,), (-5, 4)), ("clamp", (1,), (-2, 9))],
            [x, ("clamp", (0,), (-9, 9))], [x, ("max", (0, 0), ())], [x, const("", -9), ("max", (0, 1), ())],
            [x, const("", 10), ("less", (0, 1), ())], [x, z, ("where", (1, 0, 0), ())],
            [x, ("pad", (0,), ("k", 1, 1)), ("cut", (1,), ("k", 1, 3))], [x, x, ("mul", (0, 1), ()), ("sum", (2,), ("k",))],
            [x, x, ("sum", (0,), ("k",)), ("sum", (1,), ("k",)), ("add", (2, 3), ())],
            [scalar(-2, 2), x, ("mul", (0, 1), ()), ("sum", (2,), ("k",))],
        ):
            self.check(graph_of(nodes), 50)

    def test_fuel(self):
        graph = graph_of([S] + [neg(at) for at in range(200)])
        steps, result = self.check(graph, 50)
        self.assertEqual(len(steps), 50)
        self.assertEqual(cost_of(result), 100)
        self.assertEqual(len(self.check(graph, 1)[0]), 1)
        self.assertEqual(optimize(graph, 0), ((), graph))
        self.assertIs(error_of(optimize, graph, -1), RangeError)
        self.assertIs(error_of(optimize, graph, 51), RangeError)
        self.assertIs(error_of(optimize, ((), ()), 51), FormError)

    def test_many_nodes(self):
        nodes = [tensor("k2"), const("k2", 0, 0)]
        while len(nodes) < 399:
            nodes += [("add", (len(nodes) - 1, 0), ()), ("clamp", (len(nodes),), (-9, 9))]
        nodes.append(("add", (398, 1), ()))
        graph = graph_of(nodes[:400])
        steps, result = optimize(graph, 50)
        self.assertEqual(replay(graph, steps), result)
        self.assertLessEqual(cost_of(result), cost_of(graph))

    def test_a_cheaper_graph_that_is_not_valid(self):
        """A step that would lower the cost but is too wide is not taken."""
        big = scalar(0, 1 << 150)
        nodes = [tensor("k4", 0, 0), big, big, ("mul", (0, 1), ()), ("mul", (3, 2), ())]
        self.assertIs(error_of(apply_rule, graph_of(nodes), "mul-right", 4), RuleError)
        steps, result = self.check(graph_of(nodes), 50)
        self.assertEqual((steps, result), ((), graph_of(nodes)))
        nodes = [tensor("k4", 0, 1), scalar(0, 9), scalar(0, 9), ("mul", (0, 1), ()), ("mul", (3, 2), ())]
        self.assertEqual(cost_of(self.check(graph_of(nodes), 50)[1]), 5)
