"""Point 403: sites and replay."""

import unittest

from tensorworks.errors import FormError, KindError, RuleError
from tensorworks.rewriting import replay, sites
from tensorworks.rules import RULES, apply_rule
from tests.helpers import const, error_of, graph_of, random_graph, scalar, tensor

S = scalar(-9, 9)


class Sites(unittest.TestCase):
    def test_ascending(self):
        nodes = [S, ("neg", (0,), ()), ("neg", (1,), ()), ("add", (0, 2), ()), ("neg", (2,), ()), ("add", (3, 4), ())]
        graph = graph_of(nodes)
        self.assertEqual(sites(graph, "neg-neg"), (2, 4))
        self.assertEqual(sites(graph, "neg-sub"), (3, 5))
        self.assertEqual(sites(graph, "add-swap"), (3, 5))
        self.assertEqual(sites(graph, "add-right"), (5,))
        self.assertEqual(sites(graph, "mul-swap"), ())

    def test_exactly_where_it_applies(self):
        for seed in range(40):
            graph = random_graph(seed, 14, ("add", "mul", "neg", "sum", "dot", "sub", "clamp", "const", "input"))
            for rule in RULES:
                nodes = [at for at in range(14) if error_of(apply_rule, graph, rule, at) is None]
                self.assertEqual(sites(graph, rule), tuple(nodes))

    def test_unused_nodes_count(self):
        self.assertEqual(sites(graph_of([S, ("neg", (0,), ()), ("neg", (1,), ())], 0), "neg-neg"), (2,))

    def test_errors(self):
        self.assertIs(error_of(sites, graph_of([S]), "nothing"), RuleError)
        self.assertIs(error_of(sites, ((), ()), "nothing"), FormError)

    def test_many_nodes(self):
        nodes = [S] + [("neg", (at,), ()) for at in range(399)]
        self.assertEqual(sites(graph_of(nodes), "neg-neg"), tuple(range(2, 400)))


class Replay(unittest.TestCase):
    def test_steps(self):
        graph = graph_of([S, S, ("sub", (0, 1), ()), ("neg", (2,), ())])
        steps = (("sub-neg", 2), ("add-swap", 3), ("add-swap", 3), ("neg-sub", 3))
        self.assertEqual(replay(graph, ()), graph)
        self.assertEqual(replay(graph, steps[:2]), graph_of([S, S, ("neg", (1,), ()), ("add", (2, 0), ()), ("neg", (3,), ())]))
        self.assertEqual(replay(graph, steps), graph_of([S, S, ("neg", (1,), ()), ("sub", (0, 1), ()), ("neg", (3,), ())]))

    def test_a_step_that_cannot_be_applied(self):
        graph = graph_of([S, S, ("sub", (0, 1), ()), ("neg", (2,), ())])
        for steps in (
            (("neg-neg", 3),), (("nothing", 2),), (("sub-neg", 9),), (("sub-neg", -1),), (("sub-neg", 2), ("sub-neg", 2)),
            (("sub-neg", 2), ("nothing", 0)),
        ):
            self.assertIs(error_of(replay, graph, steps), RuleError)

    def test_graph_first(self):
        self.assertIs(error_of(replay, ((), ()), (("nothing", 2),)), FormError)
        self.assertIs(error_of(replay, graph_of([("nothing", (), ())]), ()), KindError)

    def test_many_steps(self):
        nodes = [S, tensor("k3"), const("", 0)] + [("neg", (at,), ()) for at in range(2, 399)]
        graph = graph_of(nodes, 399, 0)
        made = replay(graph, tuple(("neg-neg", 4 + turn) for turn in range(190)))
        self.assertEqual(len(made[0]), 210)
