"""Point 303: the graph of the gradient."""

import unittest

from tensorworks.errors import FormError, RangeError, RankError, TensorError, TooLarge, TooWide
from tensorworks.gradients import gradient_graph
from tensorworks.kinds import KINDS
from tensorworks.meaning import evaluate
from tests import naive
from tests.helpers import const, error_of, graph_of, random_feeds, random_graph, scalar, tensor

# The inputs are the nodes 0 to 3, the node itself is 4, its weight 5; what is made follows from 6 on.
START = (tensor("i2k3"), tensor("k3i2"), tensor("a2"), tensor("k3j4"))
ZERO = const("", 0)
NONE = (
    const("i2k3", 0, 0, 0, 0, 0, 0), const("k3i2", 0, 0, 0, 0, 0, 0), const("a2", 0, 0),
    const("k3j4", *[0] * 12),
)

# For each node: its shape, the nodes made for it, and the node that each input receives, if any.
TABLE = (
    (("add", (0, 1), ()), "i2k3", [("order", (5,), ("ki",))], {0: 5, 1: 6}),
    (("sub", (0, 1), ()), "i2k3", [("neg", (5,), ()), ("order", (6,), ("ki",))], {0: 5, 1: 7}),
    (("mul", (0, 3), ()), "i2k3j4", [
        ("mul", (5, 3), ()), ("sum", (6,), ("j",)), ("mul", (5, 0), ()), ("sum", (8,), ("i",)),
    ], {0: 7, 3: 9}),
    (("max", (0, 1), ()), "i2k3", [
        ("less", (0, 1), ()), ZERO, ("where", (6, 7, 5), ()), ("where", (6, 5, 7), ()), ("order", (9,), ("ki",)),
    ], {0: 8, 1: 10}),
    (("min", (0, 1), ()), "i2k3", [
        ("less", (0, 1), ()), ZERO, ("where", (6, 5, 7), ()), ("where", (6, 7, 5), ()), ("order", (9,), ("ki",)),
    ], {0: 8, 1: 10}),
    (("less", (0, 1), ()), "i2k3", [], {}),
    (("equal", (0, 1), ()), "i2k3", [], {}),
    (("neg", (1,), ()), "k3i2", [("neg", (5,), ())], {1: 6}),
    (("clamp", (0,), (-2, 5)), "i2k3", [("equal", (0, 4), ()), ZERO, ("where", (6, 5, 7), ())], {0: 8}),
    (("shift", (0,), (3,)), "i2k3", [], {}),
    (("where", (2, 0, 1), ()), "a2i2k3", [
        ZERO, ("where", (2, 5, 6), ()), ("sum", (7,), ("a",)), ("where", (2, 6, 5), ()), ("sum", (9,), ("a",)),
        ("order", (10,), ("ki",)),
    ], {0: 8, 1: 11}),
    (("sum", (0,), ("i",)), "k3", [("spread", (5,), ("i", 2)), ("order", (6,), ("ik",))], {0: 7}),
    (("peak", (0,), ("k",)), "i2", [
        ("equal", (0, 4), ()), const("k3", 0, 1, 2), const("", 3), ("where", (6, 7, 8), ()), ("neg", (9,), ()),
        ("peak", (10,), ("k",)), ("neg", (11,), ()), ("equal", (7, 12), ()), ZERO, ("where", (13, 5, 14), ()),
        ("order", (15,), ("ik",)),
    ], {0: 16}),
    (("dot", (0, 3), ("k",)), "i2j4", [
        ("dot", (5, 3), ("j",)), ("dot", (5, 0), ("i",)), ("order", (7,), ("kj",)),
    ], {0: 6, 3: 8}),
    (("order", (0,), ("ki",)), "k3i2", [("order", (5,), ("ik",))], {0: 6}),
    (("rename", (0,), ("i", "z")), "z2k3", [("rename", (5,), ("z", "i"))], {0: 6}),
    (("spread", (0,), ("z", 2)), "i2k3z2", [("sum", (5,), ("z",))], {0: 6}),
    (("cut", (3,), ("j", 1, 2)), "k3j2", [("pad", (5,), ("j", 1, 1))], {3: 6}),
    (("pad", (3,), ("j", 1, 2)), "k3j7", [("cut", (5,), ("j", 1, 4))], {3: 6}),
    (("join", (0, 0), ("k",)), "i2k6", [
        ("cut", (5,), ("k", 0, 3)), ("cut", (5,), ("k", 3, 3)), ("add", (6, 7), ()),
    ], {0: 8}),
    (("window", (3,), ("j", "w", 2, 1)), "k3j3w2", [("fold", (5,), ("j", "w", 1, 4))], {3: 6}),
    (("fold", (3,), ("k", "j", 2, 9)), "k9", [
        ("window", (5,), ("k", "j", 4, 2)),
    ], {3: 6}),
    (("gather", (0, 2), ("k",)), "i2a2", [
        const("k3", 0, 1, 2), ("clamp", (2,), (0, 2)), ("equal", (6, 7), ()), ZERO, ("where", (8, 5, 9), ()),
        ("sum", (10,), ("a",)), ("order", (11,), ("ik",)),
    ], {0: 12}),
)


class Table(unittest.TestCase):
    def test_each_computed_kind(self):
        self.assertEqual([node[0] for node, _, _, _ in TABLE], list(KINDS[2:]))
        for node, word, made, totals in TABLE:
            weight = tensor(word, -7, 8)
            nodes = list(START) + [node, weight] + made
            outs = []
            for at, zeros in enumerate(NONE):
                if at not in totals:
                    nodes.append(zeros)
                outs.append(totals.get(at, len(nodes) - 1))
            graph = graph_of(START + (node,))
            self.assertEqual(gradient_graph(graph, -7, 8), (tuple(nodes), tuple(outs)), node)
            self.assertEqual(gradient_graph(graph, -7, 8), gradient_graph(graph, -7, 8))

    def test_example(self):
        graph = ((("input", (), ((), -3, 3)), ("mul", (0, 0), ())), (1,))
        self.assertEqual(gradient_graph(graph, 1, 1), (
            (("input", (), ((), -3, 3)), ("mul", (0, 0), ()), ("input", (), ((), 1, 1)), ("mul", (2, 0), ()),
             ("mul", (2, 0), ()), ("add", (3, 4), ())), (5,)))

    def test_products_of_dot(self):
        """The axes of g and b beyond a: none, and two."""
        both = graph_of([tensor("i2k3"), tensor("k3"), ("dot", (0, 1), ("k",))])
        made = gradient_graph(both, 0, 1)
        self.assertEqual(made[0][4:], (("mul", (3, 1), ()), ("dot", (3, 0), ("i",))))
        self.assertEqual(made[1], (4, 5))
        two = graph_of([tensor("k3"), tensor("k3i2j2"), ("dot", (0, 1), ("k",))])
        made = gradient_graph(two, 0, 1)
        self.assertEqual(made[0][4:], (
            ("dot", (3, 1), ("i",)), ("sum", (4,), ("j",)), ("mul", (3, 0), ()), ("order", (6,), ("kij",))))
        self.assertEqual(made[1], (5, 7))

    def test_fold_with_a_rest(self):
        graph = graph_of([tensor("j4k3"), ("fold", (0,), ("k", "j", 2, 12))])
        made = gradient_graph(graph, 0, 1)
        self.assertEqual(made[0][3:], (
            ("window", (2,), ("k", "j", 4, 2)), ("cut", (3,), ("k", 0, 3)), ("order", (4,), ("jk",))))

    def test_parts_in_order(self):
        """An output received its weights first; each part is added behind."""
        nodes = [scalar(-3, 3), ("neg", (0,), ()), ("mul", (0, 1), ()), ("add", (1, 1), ())]
        made = gradient_graph(graph_of(nodes, 1, 3, 0, 1), -1, 2)
        weight = scalar(-1, 2)
        self.assertEqual(made, (tuple(nodes) + (
            weight, weight, weight, weight,                 # 4 to 7, for 1, 3, 0 and 1
            ("add", (4, 7), ()), ("add", (8, 5), ()), ("add", (9, 5), ()),  # the total of 1
            ("neg", (10,), ()), ("add", (6, 11), ()),       # the total of 0
        ), (12,)))

    def test_unneeded_nodes(self):
        nodes = [scalar(0, 1), tensor("i2"), const("", 4), ("neg", (1,), ()), ("add", (0, 2), ()), ("shift", (3,), (1,))]
        made = gradient_graph(graph_of(nodes, 4), 0, 1)
        self.assertEqual(made[0][6:], (scalar(0, 1), const("i2", 0, 0)))
        self.assertEqual(made[1], (6, 7))
        made = gradient_graph(graph_of(nodes, 5, 4), 0, 1)
        self.assertEqual(made[0][6:], (tensor("i2", 0, 1), scalar(0, 1), const("i2", 0, 0)))
        self.assertEqual(made[1], (7, 8))

    def test_input_as_output(self):
        made = gradient_graph(graph_of([scalar(0, 1)], 0, 0), 3, 4)
        self.assertEqual(made, ((scalar(0, 1), scalar(3, 4), scalar(3, 4), ("add", (1, 2), ())), (3,)))


class Errors(unittest.TestCase):
    def test_order(self):
        self.assertIs(error_of(gradient_graph, ((), ()), 1, 0), FormError)
        self.assertIs(error_of(gradient_graph, graph_of([const("", 1)]), 1, 0), RangeError)
        self.assertIs(error_of(gradient_graph, graph_of([const("", 1)]), 0, 0), FormError)
        self.assertIs(error_of(gradient_graph, graph_of([scalar(0, 1)]), 1, 0), RangeError)

    def test_result_not_valid(self):
        long = graph_of([scalar(0, 1)] + [("neg", (at,), ()) for at in range(200)])
        self.assertIs(error_of(gradient_graph, long, 1, 0), RangeError)
        self.assertIs(error_of(gradient_graph, long, 0, 0), TooLarge)
        square = graph_of([scalar(0, 1 << 90), ("mul", (0, 0), ())])
        self.assertIs(error_of(gradient_graph, square, 0, 1 << 110), TooWide)

    def test_shapes_on_the_way_that_are_not_valid(self):
        """The result is made whole although a node of it is not valid."""
        nodes = [("input", (), ((("k", 16), ("j", 4)), 0, 1)), ("input", (), ((("m", 16),), 0, 1)),
                 ("gather", (0, 1), ("k",)), ("neg", (2,), ())]
        self.assertIs(error_of(gradient_graph, graph_of(nodes), 0, 1), TooLarge)
        nodes = [tensor("a1b1c1d1"), tensor("w2"), ("gather", (0, 1), ("a",)), ("sum", (2,), ("w",))]
        self.assertIs(error_of(gradient_graph, graph_of(nodes), 0, 1), RankError)
        # the product for a has the axes i, l and k, before l is summed away
        nodes = [("input", (), ((("i", 16), ("k", 16)), 0, 1)), ("input", (), ((("k", 16), ("j", 2), ("m", 8)), 0, 1)),
                 ("dot", (0, 1), ("k",))]
        self.assertIs(error_of(gradient_graph, graph_of(nodes), 0, 1), TooLarge)

    def test_limits(self):
        row = graph_of([scalar(0, 1)] + [("neg", (at,), ()) for at in range(199)])
        made = gradient_graph(row, -1, 1)
        self.assertEqual(len(made[0]), 400)
        self.assertEqual(evaluate(made, ((1,), (1,))), ((-1,),))


def paired(rows, others):
    return sum(n * m for row, other in zip(rows, others) for n, m in zip(row, other))


class Gradients(unittest.TestCase):
    def test_weights_and_directions(self):
        done = 0
        for seed in range(300):
            graph = random_graph(seed, 9)
            try:
                made = gradient_graph(graph, -3, 3)
            except TensorError:
                continue
            done += 1
            for turn in range(3):
                feeds = random_feeds(graph, turn)
                weights = random_feeds(made, turn + 5)[len(feeds):]
                gradient = evaluate(made, feeds + weights)
                direction = random_feeds(graph, turn + 9, -3, 3)
                slopes = naive.slopes_of(graph, feeds, direction)
                left = paired(weights, [slopes[out] for out in graph[1]])
                self.assertEqual(left, paired(gradient, direction), seed)
        self.assertGreater(done, 200)
