"""Points 401 and 402: the rules, where they apply, and their errors."""

import unittest

from tensorworks.errors import FormError, KindError, RuleError
from tensorworks.gradients import gradient_graph
from tensorworks.graphs import check_graph
from tensorworks.meaning import evaluate
from tensorworks.rewriting import sites
from tensorworks.rules import RULES, apply_rule
from tests.helpers import const, error_of, graph_of, random_feeds, random_graph, scalar, tensor

X, Y, Z = tensor("i2k3"), tensor("k3i2"), tensor("k3")
S = scalar(-9, 9)


def add(a, b):
    return ("add", (a, b), ())


def sub(a, b):
    return ("sub", (a, b), ())


def mul(a, b):
    return ("mul", (a, b), ())


def neg(a):
    return ("neg", (a,), ())


def total(a, axis):
    return ("sum", (a,), (axis,))


def dot(a, b, axis):
    return ("dot", (a, b), (axis,))


# For each rule the inputs and consts, the nodes on the left, the last of which is the node, and what
# takes its place: new nodes, or the number of the node that does.
CASES = (
    ("add-swap", [X, S], [add(0, 1)], [add(1, 0)]),
    ("add-left", [X, Z, S], [add(1, 2), add(0, 3)], [add(0, 1), add(4, 2)]),
    ("add-right", [X, Z, S], [add(0, 1), add(3, 2)], [add(1, 2), add(0, 4)]),
    ("mul-swap", [X, S], [mul(0, 1)], [mul(1, 0)]),
    ("mul-left", [X, Z, S], [mul(1, 2), mul(0, 3)], [mul(0, 1), mul(4, 2)]),
    ("mul-right", [X, Z, S], [mul(0, 1), mul(3, 2)], [mul(1, 2), mul(0, 4)]),
    ("mul-over", [X, Z, S], [add(1, 2), mul(0, 3)], [mul(0, 1), mul(0, 2), add(4, 5)]),
    ("mul-out", [X, Z, S], [mul(0, 1), mul(0, 2), add(3, 4)], [add(1, 2), mul(0, 5)]),
    ("sub-neg", [X, Z], [sub(0, 1)], [neg(1), add(0, 2)]),
    ("neg-sub", [X, Z], [neg(1), add(0, 2)], [sub(0, 1)]),
    ("neg-neg", [X], [neg(0), neg(1)], 0),
    ("add-zero", [X, const("k3", 0, 0, 0)], [add(0, 1)], 0),
    ("mul-one", [X, const("k3", 1, 1, 1)], [mul(0, 1)], 0),
    ("sum-add", [X, Z], [add(0, 1), total(2, "k")], [total(0, "k"), total(1, "k"), add(3, 4)]),
    ("add-sum", [X, Z], [total(0, "k"), total(1, "k"), add(2, 3)], [add(0, 1), total(4, "k")]),
    ("sum-dot", [X, Z], [mul(0, 1), total(2, "k")], [dot(0, 1, "k")]),
    ("dot-sum", [X, Z], [dot(0, 1, "k")], [mul(0, 1), total(2, "k")]),
    ("sum-mul", [S, X], [mul(0, 1), total(2, "k")], [total(1, "k"), mul(0, 3)]),
    ("mul-sum", [S, X], [total(1, "k"), mul(0, 2)], [mul(0, 1), total(3, "k")]),
    ("dot-left", [tensor("a2j3"), tensor("j3k2"), tensor("k2b2")],
     [dot(0, 1, "j"), dot(3, 2, "k")], [dot(1, 2, "k"), dot(0, 4, "j")]),
    ("dot-right", [tensor("a2j3"), tensor("j3k2"), tensor("k2b2")],
     [dot(1, 2, "k"), dot(0, 3, "j")], [dot(0, 1, "j"), dot(4, 2, "k")]),
    ("order-order", [tensor("i2j2k3")], [("order", (0,), ("kij",)), ("order", (1,), ("jki",))],
     [("order", (0,), ("jki",))]),
    ("order-none", [X], [("order", (0,), ("ik",))], 0),
    ("clamp-clamp", [X], [("clamp", (0,), (-5, 6)), ("clamp", (1,), (-7, 4))], [("clamp", (0,), (-5, 4))]),
    ("clamp-none", [X], [("clamp", (0,), (-9, 10))], 0),
    ("max-same", [X], [("max", (0, 0), ())], 0),
    ("max-left", [tensor("i2k3", 5, 9), tensor("k3", 0, 5)], [("max", (0, 1), ())], 0),
    ("less-known", [tensor("i2", 0, 4), tensor("k2", 5, 9)], [("less", (0, 1), ())], [const("i2k2", 1, 1, 1, 1)]),
    ("where-same", [S, X], [("where", (0, 1, 1), ())], 1),
    ("cut-pad", [X], [("pad", (0,), ("k", 2, 1)), ("cut", (1,), ("k", 2, 3))], 0),
)


class Table(unittest.TestCase):
    def test_names(self):
        self.assertEqual(" ".join(RULES), (
            "add-swap add-left add-right mul-swap mul-left mul-right mul-over mul-out sub-neg neg-sub neg-neg "
            "add-zero mul-one sum-add add-sum sum-dot dot-sum sum-mul mul-sum dot-left dot-right order-order "
            "order-none clamp-clamp clamp-none max-same max-left less-known where-same cut-pad"
        ))
        self.assertIsInstance(RULES, tuple)
        self.assertEqual(tuple(case[0] for case in CASES), RULES)

    def test_each_rule(self):
        for rule, start, left, right in CASES:
            before = start + left
            node = len(before) - 1
            graph = graph_of(before + [neg(node), add(node, 0)], node + 2, node, 0, node + 1)
            if isinstance(right, int):
                made, place = [], right
            else:
                made, place = right, node + len(right) - 1
            shift = len(made) - 1
            nodes = before[:-1] + made + [neg(place), add(place, 0)]
            expected = graph_of(nodes, node + 2 + shift, place, 0, node + 1 + shift)
            self.assertEqual(apply_rule(graph, rule, node), expected, rule)
            self.assertIn(node, sites(graph, rule))
            for turn in range(4):
                feeds = random_feeds(graph, turn)
                self.assertEqual(evaluate(expected, feeds), evaluate(graph, feeds), rule)

    def test_later_nodes_and_outputs_move(self):
        nodes = [X, S, add(0, 1), neg(1), mul(2, 3), add(4, 2)]
        made = apply_rule(graph_of(nodes, 5, 2, 3, 1), "add-swap", 2)
        self.assertEqual(made, graph_of([X, S, add(1, 0), neg(1), mul(2, 3), add(4, 2)], 5, 2, 3, 1))
        made = apply_rule(graph_of(nodes + [sub(0, 1), neg(6)], 6, 7, 5), "sub-neg", 6)
        self.assertEqual(made, graph_of(nodes + [neg(1), add(0, 6), neg(7)], 7, 8, 5))
        made = apply_rule(graph_of([X, neg(0), neg(1), S, add(2, 3), neg(2)], 2, 4, 5, 3), "neg-neg", 2)
        self.assertEqual(made, graph_of([X, neg(0), S, add(0, 2), neg(0)], 0, 3, 4, 2))

    def test_example(self):
        nodes = (("input", (), ((), -3, 3)), ("neg", (0,), ()), ("neg", (1,), ()), ("mul", (2, 2), ()))
        self.assertEqual(apply_rule((nodes, (3,)), "neg-neg", 2), (
            (("input", (), ((), -3, 3)), ("neg", (0,), ()), ("mul", (0, 0), ())), (2,)))

    def test_less_known_both_ways(self):
        high, low = tensor("i2", 5, 9), tensor("i2", 0, 5)
        graph = graph_of([high, low, ("less", (0, 1), ())])
        self.assertEqual(apply_rule(graph, "less-known", 2)[0][2], const("i2", 0, 0))
        graph = graph_of([high, low, ("less", (1, 0), ())])
        self.assertIs(error_of(apply_rule, graph, "less-known", 2), RuleError)
        graph = graph_of([high, tensor("i2", 0, 4), ("less", (1, 0), ())])
        self.assertEqual(apply_rule(graph, "less-known", 2)[0][2], const("i2", 1, 1))

    def test_exact_ends(self):
        graph = graph_of([X, ("clamp", (0,), (-9, 9))])
        self.assertEqual(apply_rule(graph, "clamp-none", 1), graph_of([X], 0))
        graph = graph_of([tensor("k3", 5, 5), tensor("k3", 5, 5), ("max", (0, 1), ()), ("less", (0, 1), ())], 2, 3)
        self.assertEqual(sites(graph, "max-left"), (2,))
        self.assertEqual(sites(graph, "less-known"), (3,))

    def test_clamp_clamp_apart(self):
        for first, second, both in (((-5, 6), (7, 9), (7, 7)), ((5, 6), (-3, 2), (2, 2)), ((-1, 9), (0, 20), (0, 9))):
            graph = graph_of([X, ("clamp", (0,), first), ("clamp", (1,), second)])
            self.assertEqual(apply_rule(graph, "clamp-clamp", 2)[0][2], ("clamp", (0,), both))


class Refused(unittest.TestCase):
    """Rules where the left side, the further condition, the shape or the result is not right."""

    def refused(self, rule, nodes, at=None):
        graph = graph_of(nodes)
        check_graph(graph)
        place = len(nodes) - 1 if at is None else at
        self.assertIs(error_of(apply_rule, graph, rule, place), RuleError, (rule, nodes))
        self.assertNotIn(place, sites(graph, rule))

    def test_left_side(self):
        for rule in RULES:
            self.refused(rule, [X])
            self.refused(rule, [X, ("shift", (0,), (1,))])
        for rule, nodes in (
            ("add-left", [S, S, S, add(1, 2), add(3, 0)]), ("add-right", [S, S, S, add(1, 2), add(0, 3)]),
            ("mul-left", [S, S, S, mul(1, 2), mul(3, 0)]), ("mul-right", [S, S, S, mul(1, 2), mul(0, 3)]),
            ("mul-over", [S, S, S, add(1, 2), mul(3, 0)]), ("mul-over", [S, S, S, sub(1, 2), mul(0, 3)]),
            ("mul-out", [S, S, S, mul(0, 1), mul(2, 0), add(3, 4)]), ("mul-out", [S, S, mul(0, 1), add(2, 0)]),
            ("neg-sub", [S, S, neg(1), add(2, 0)]), ("neg-neg", [S, neg(0)]),
            ("add-zero", [const("", 0), S, add(0, 1)]), ("mul-one", [const("", 1), S, mul(0, 1)]),
            ("add-zero", [scalar(0, 0), S, add(1, 0)]), ("mul-one", [scalar(1, 1), S, mul(1, 0)]),
            ("sum-add", [X, X, sub(0, 1), total(2, "k")]),
            ("add-sum", [tensor("i2k2"), total(0, "k"), total(0, "i"), add(1, 2)]),
            ("order-order", [X, ("order", (0,), ("ki",))]), ("clamp-clamp", [X, ("clamp", (0,), (0, 1))]),
            ("max-same", [X, X, ("max", (0, 1), ())]), ("where-same", [S, X, X, ("where", (0, 1, 2), ())]),
            ("sub-neg", [S, S, add(0, 1)]), ("sum-mul", [S, X, add(0, 1), total(2, "k")]),
        ):
            self.refused(rule, nodes)

    def test_axes_of_conditions(self):
        self.refused("sum-add", [S, X, add(0, 1), total(2, "k")])
        self.refused("sum-add", [X, S, add(0, 1), total(2, "k")])
        self.refused("sum-dot", [S, X, mul(0, 1), total(2, "k")])
        self.refused("sum-dot", [X, S, mul(0, 1), total(2, "k")])
        self.refused("sum-mul", [Z, X, mul(0, 1), total(2, "k")])
        self.refused("sum-mul", [X, S, mul(0, 1), total(2, "k")])
        self.refused("mul-sum", [tensor("k2"), X, total(1, "k"), mul(0, 2)])
        with_k = tensor("j3k2")
        self.refused("dot-left", [with_k, with_k, tensor("k2"), dot(0, 1, "j"), dot(3, 2, "k")])
        self.refused("dot-left", [tensor("j3"), with_k, with_k, dot(0, 1, "j"), dot(3, 2, "k")])
        self.refused("dot-right", [with_k, with_k, tensor("k2"), dot(1, 2, "k"), dot(0, 3, "j")])
        self.refused("dot-right", [tensor("j3"), with_k, with_k, dot(1, 2, "k"), dot(0, 3, "j")])

    def test_data_of_conditions(self):
        self.refused("add-zero", [X, const("k3", 0, 0, 1), add(0, 1)])
        self.refused("mul-one", [X, const("k3", 1, 0, 1), mul(0, 1)])
        self.refused("add-zero", [X, const("k3", 1, 1, 1), add(0, 1)])

    def test_intervals_of_conditions(self):
        self.refused("clamp-none", [X, ("clamp", (0,), (-8, 9))])
        self.refused("clamp-none", [X, ("clamp", (0,), (-9, 8))])
        self.refused("max-left", [tensor("k3", 5, 9), tensor("k3", 0, 6), ("max", (0, 1), ())])
        self.refused("max-left", [tensor("k3", 0, 5), tensor("k3", 5, 9), ("max", (0, 1), ())])
        self.refused("less-known", [tensor("k3", 0, 5), tensor("k3", 5, 9), ("less", (0, 1), ())])
        self.refused("less-known", [tensor("k3", 5, 9), tensor("k3", 0, 6), ("less", (0, 1), ())])

    def test_fields_of_cut_pad(self):
        pad = ("pad", (0,), ("k", 2, 1))
        self.refused("cut-pad", [X, pad, ("cut", (1,), ("k", 1, 3))])
        self.refused("cut-pad", [X, pad, ("cut", (1,), ("k", 2, 2))])
        self.refused("cut-pad", [X, pad, ("cut", (1,), ("i", 0, 2))])
        self.refused("cut-pad", [tensor("i2k2"), ("pad", (0,), ("k", 0, 1)), ("cut", (1,), ("i", 0, 2))])

    def test_shape_would_change(self):
        self.refused("add-swap", [X, Y, add(0, 1)])
        self.refused("add-swap", [Z, X, add(0, 1)])
        self.refused("mul-swap", [S, tensor("i2"), X, ("sum", (2,), ("i",)), mul(1, 3)])
        self.refused("add-zero", [Z, const("i2", 0, 0), add(0, 1)])
        self.refused("mul-one", [S, const("i2", 1, 1), mul(0, 1)])
        self.refused("order-none", [X, ("order", (0,), ("ki",))])
        self.refused("max-left", [tensor("k3", 5, 9), tensor("i2", 0, 5), ("max", (0, 1), ())])
        self.refused("where-same", [tensor("i2"), Z, ("where", (0, 1, 1), ())])
        self.refused("where-same", [tensor("k3"), X, ("where", (0, 1, 1), ())])

    def test_result_not_valid(self):
        # the product has 512 elements before its sum
        wide = [tensor("i8k8"), tensor("k8j8"), dot(0, 1, "k")]
        self.refused("dot-sum", wide)
        # too many axes
        self.refused("dot-sum", [tensor("a1b1k2"), tensor("k2c1d1"), dot(0, 1, "k")])
        # k has two sizes
        self.refused("add-sum", [tensor("k2"), tensor("k3"), total(0, "k"), total(1, "k"), add(2, 3)])
        # too wide
        big = scalar(0, 1 << 150)
        self.refused("mul-left", [big, big, const("", 0), mul(1, 2), mul(0, 3)])

    def test_node_limit(self):
        nodes = [S, S, sub(0, 1)] + [neg(at) for at in range(2, 399)]
        self.assertEqual(len(nodes), 400)
        self.refused("sub-neg", nodes, 2)
        graph = graph_of(nodes[:-1])
        self.assertEqual(len(apply_rule(graph, "sub-neg", 2)[0]), 400)
        self.assertEqual(sites(graph_of(nodes), "sub-neg"), ())

    def test_work_limit(self):
        big = ("input", (), ((("i", 16), ("j", 16)), 0, 1))
        nodes = [big, ("sub", (0, 0), ())] + [neg(at) for at in range(1, 195)]
        check_graph(graph_of(nodes))
        self.refused("sub-neg", nodes, 1)


class Errors(unittest.TestCase):
    def test_rule_and_node(self):
        graph = graph_of([S, neg(0), neg(1)])
        for rule in ("", "neg", "neg_neg", "NEG-NEG", "neg-neg "):
            self.assertIs(error_of(apply_rule, graph, rule, 2), RuleError)
        for node in (-1, -2, 3, 99, -10 ** 30):
            self.assertIs(error_of(apply_rule, graph, "neg-neg", node), RuleError)
        # a negative node does not count from the end
        self.assertIs(error_of(apply_rule, graph_of([S, neg(0), neg(1)], 2), "neg-neg", -1), RuleError)

    def test_graph_first(self):
        self.assertIs(error_of(apply_rule, ((), ()), "nothing", 9), FormError)
        self.assertIs(error_of(apply_rule, graph_of([("nothing", (), ())]), "nothing", -1), KindError)


SMOOTH = ("input", "const", "add", "sub", "mul", "neg", "sum", "dot", "order", "rename", "spread", "cut", "pad",
          "join", "window", "fold")


class Meaning(unittest.TestCase):
    """The outputs keep their values, and for smooth graphs the gradients do, too."""

    def test_random_graphs(self):
        done = set()
        for seed in range(120):
            graph = random_graph(seed, 16, ("add", "mul", "neg", "sum", "dot", "sub", "max", "clamp", "order", "where",
                                            "less", "input", "const"))
            for rule in RULES:
                for node in sites(graph, rule):
                    done.add(rule)
                    made = apply_rule(graph, rule, node)
                    feeds = random_feeds(graph, node)
                    self.assertEqual(evaluate(made, feeds), evaluate(graph, feeds), (seed, rule, node))
        self.assertGreater(len(done), 18)

    def test_gradients(self):
        done = 0
        for seed in range(120):
            graph = random_graph(seed, 8, SMOOTH)
            for rule in RULES:
                for node in sites(graph, rule):
                    made = apply_rule(graph, rule, node)
                    try:
                        first, second = gradient_graph(graph, -3, 3), gradient_graph(made, -3, 3)
                    except ValueError:
                        continue
                    feeds = random_feeds(first, node)
                    self.assertEqual(evaluate(first, feeds), evaluate(second, feeds))
                    done += 1
        self.assertGreater(done, 100)
