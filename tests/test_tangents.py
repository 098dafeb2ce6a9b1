"""Points 301 and 302: slopes and the graph of the slopes."""

import unittest
from fractions import Fraction

from tensorworks.errors import FormError, KindError, RangeError, TensorError, TooLarge, TooWide
from tensorworks.kinds import KINDS
from tensorworks.meaning import evaluate
from tensorworks.tangents import tangent_graph
from tests import naive
from tests.helpers import const, error_of, graph_of, random_feeds, random_graph, scalar, tensor

SMOOTH = ("input", "const", "add", "sub", "mul", "neg", "sum", "dot", "order", "rename", "spread", "cut", "pad",
          "join", "window", "fold")

# The inputs 0 to 2 become the nodes 0, 2 and 4, with the slopes 1, 3 and 5; the node itself is 6.
A, B, I = tensor("i2k3"), tensor("i2k3"), tensor("a2")
ZEROS = const("i2k3", 0, 0, 0, 0, 0, 0)
ZERO = const("", 0)
TABLE = (
    (("add", (0, 1), ()), ("add", (0, 2), ()), [("add", (1, 3), ())]),
    (("sub", (1, 0), ()), ("sub", (2, 0), ()), [("sub", (3, 1), ())]),
    (("mul", (0, 1), ()), ("mul", (0, 2), ()), [("mul", (1, 2), ()), ("mul", (0, 3), ()), ("add", (7, 8), ())]),
    (("max", (0, 1), ()), ("max", (0, 2), ()), [("less", (0, 2), ()), ("where", (7, 3, 1), ())]),
    (("min", (0, 1), ()), ("min", (0, 2), ()), [("less", (0, 2), ()), ("where", (7, 1, 3), ())]),
    (("less", (0, 1), ()), ("less", (0, 2), ()), [ZEROS]),
    (("equal", (0, 1), ()), ("equal", (0, 2), ()), [ZEROS]),
    (("neg", (1,), ()), ("neg", (2,), ()), [("neg", (3,), ())]),
    (("clamp", (0,), (-2, 5)), ("clamp", (0,), (-2, 5)), [("equal", (0, 6), ()), ZERO, ("where", (7, 1, 8), ())]),
    (("shift", (0,), (3,)), ("shift", (0,), (3,)), [ZEROS]),
    (("where", (1, 0, 1), ()), ("where", (2, 0, 2), ()), [("where", (2, 1, 3), ())]),
    (("sum", (0,), ("i",)), ("sum", (0,), ("i",)), [("sum", (1,), ("i",))]),
    (("peak", (0,), ("k",)), ("peak", (0,), ("k",)), [
        ("equal", (0, 6), ()), const("k3", 0, 1, 2), const("", 3), ("where", (7, 8, 9), ()), ("neg", (10,), ()),
        ("peak", (11,), ("k",)), ("neg", (12,), ()), ("equal", (8, 13), ()), ZERO, ("where", (14, 1, 15), ()),
        ("sum", (16,), ("k",)),
    ]),
    (("dot", (0, 1), ("k",)), ("dot", (0, 2), ("k",)), [
        ("dot", (1, 2), ("k",)), ("dot", (0, 3), ("k",)), ("add", (7, 8), ()),
    ]),
    (("order", (0,), ("ki",)), ("order", (0,), ("ki",)), [("order", (1,), ("ki",))]),
    (("rename", (0,), ("i", "z")), ("rename", (0,), ("i", "z")), [("rename", (1,), ("i", "z"))]),
    (("spread", (0,), ("z", 2)), ("spread", (0,), ("z", 2)), [("spread", (1,), ("z", 2))]),
    (("cut", (0,), ("k", 1, 2)), ("cut", (0,), ("k", 1, 2)), [("cut", (1,), ("k", 1, 2))]),
    (("pad", (0,), ("k", 1, 2)), ("pad", (0,), ("k", 1, 2)), [("pad", (1,), ("k", 1, 2))]),
    (("join", (0, 1), ("k",)), ("join", (0, 2), ("k",)), [("join", (1, 3), ("k",))]),
    (("window", (0,), ("k", "w", 2, 1)), ("window", (0,), ("k", "w", 2, 1)), [("window", (1,), ("k", "w", 2, 1))]),
    (("fold", (0,), ("i", "k", 2, 6)), ("fold", (0,), ("i", "k", 2, 6)), [("fold", (1,), ("i", "k", 2, 6))]),
    (("gather", (0, 2), ("k",)), ("gather", (0, 4), ("k",)), [("gather", (1, 4), ("k",))]),
)


class Table(unittest.TestCase):
    def test_each_computed_kind(self):
        self.assertEqual([node[0] for node, _, _ in TABLE], list(KINDS[2:]))
        ways = [(kind, (), (info[0], -7, 8)) for kind, _, info in (A, B, I)]
        start = [A, ways[0], B, ways[1], I, ways[2]]
        for node, moved, slope in TABLE:
            graph = graph_of([A, B, I, node], 3, 0, 3)
            made = tangent_graph(graph, -7, 8)
            last = 6 + len(slope)
            self.assertEqual(made, (tuple(start + [moved] + slope), (last, 1, last)), node)
            self.assertEqual(tangent_graph(graph, -7, 8), made)

    def test_sources(self):
        graph = graph_of([const("k2", 5, 6), tensor("i2", 0, 3)], 0, 1)
        nodes = (const("k2", 5, 6), const("k2", 0, 0), tensor("i2", 0, 3), tensor("i2", -1, 1))
        self.assertEqual(tangent_graph(graph, -1, 1), (nodes, (1, 3)))

    def test_example(self):
        made = tangent_graph(((("input", (), ((), -3, 3)), ("mul", (0, 0), ())), (1,)), -1, 1)
        self.assertEqual(made[0][3:], (("mul", (1, 0), ()), ("mul", (0, 1), ()), ("add", (3, 4), ())))
        self.assertEqual(made[1], (5,))

    def test_shape_of_zeros(self):
        graph = graph_of([tensor("i2"), tensor("k2"), ("less", (1, 0), ())])
        self.assertEqual(tangent_graph(graph, 0, 0)[0][-1], const("k2i2", 0, 0, 0, 0))

    def test_peak_over_a_first_axis(self):
        graph = graph_of([tensor("i2k3"), ("peak", (0,), ("i",))])
        feeds, direction = (1, 7, -2, 1, 3, 9), (1, 2, 3, 4, 5, 6)
        self.assertEqual(evaluate(tangent_graph(graph, 0, 9), (feeds, direction)), ((1, 2, 6),))


class Errors(unittest.TestCase):
    def test_order(self):
        self.assertIs(error_of(tangent_graph, ((), ()), 1, 0), FormError)
        self.assertIs(error_of(tangent_graph, graph_of([("nothing", (), ())]), 1, 0), KindError)
        long = graph_of([scalar(0, 1)] + [("neg", (at,), ()) for at in range(200)])
        self.assertIs(error_of(tangent_graph, long, 1, 0), RangeError)
        self.assertIs(error_of(tangent_graph, long, 0, 0), TooLarge)
        self.assertIs(error_of(tangent_graph, graph_of([scalar(0, 1)]), 1, 0), RangeError)
        self.assertIs(error_of(tangent_graph, graph_of([scalar(0, 1)]), 0, 0), None)

    def test_result_not_valid(self):
        graph = graph_of([scalar(0, 1), ("neg", (0,), ())])
        self.assertIs(error_of(tangent_graph, graph, 0, 1 << 201), TooWide)
        square = graph_of([scalar(0, 1 << 90), ("mul", (0, 0), ())])
        self.assertIs(error_of(tangent_graph, square, 0, 1 << 110), TooWide)
        self.assertIs(error_of(tangent_graph, square, 0, 1 << 109), None)

    def test_limits(self):
        row = graph_of([scalar(0, 1)] + [("neg", (at,), ()) for at in range(199)])
        made = tangent_graph(row, -1, 1)
        self.assertEqual(len(made[0]), 400)
        self.assertEqual(evaluate(made, ((1,), (1,))), ((-1,),))


def mixed(graph, feeds, direction):
    """Return the feeds of the tangent graph."""
    return tuple(row for pair in zip(feeds, direction) for row in pair)


class Slopes(unittest.TestCase):
    def test_random_graphs(self):
        done = 0
        for seed in range(200):
            graph = random_graph(seed, 12)
            try:
                made = tangent_graph(graph, -3, 3)
            except TensorError:
                continue
            done += 1
            for turn in range(3):
                feeds = random_feeds(graph, turn)
                direction = random_feeds(graph, turn + 9, -3, 3)
                slopes = naive.slopes_of(graph, feeds, direction)
                expected = tuple(slopes[out] for out in graph[1])
                self.assertEqual(evaluate(made, mixed(graph, feeds, direction)), expected, seed)
        self.assertGreater(done, 150)

    def test_ties(self):
        a, b = scalar(-9, 9), scalar(-9, 9)
        for kind, expected in (("max", (3, 5, 3)), ("min", (5, 3, 5))):
            made = tangent_graph(graph_of([a, b, (kind, (0, 1), ())]), -9, 9)
            rows = [((x,), (3,), (y,), (5,)) for x, y in ((2, 1), (1, 2), (2, 2))]
            # where both are equal, max follows a and min follows b
            self.assertEqual([evaluate(made, feeds)[0][0] for feeds in rows], list(expected))

    def test_ends_of_clamp(self):
        made = tangent_graph(graph_of([scalar(-9, 9), ("clamp", (0,), (-2, 3))]), -9, 9)
        got = [evaluate(made, ((n,), (7,)))[0][0] for n in (-3, -2, 0, 3, 4)]
        self.assertEqual(got, [0, 7, 7, 7, 0])

    def test_first_of_the_greatest(self):
        made = tangent_graph(graph_of([tensor("k4"), ("peak", (0,), ("k",))]), -9, 9)
        self.assertEqual(evaluate(made, ((1, 5, 5, 2), (1, 2, 3, 4))), ((2,),))
        self.assertEqual(evaluate(made, ((5, 5, 5, 5), (8, 2, 3, 4))), ((8,),))

    def test_coefficient_of_t(self):
        """The last sentence of point 301, by interpolation."""
        done = 0
        for seed in range(60):
            graph = random_graph(seed, 8, SMOOTH, 16, 200)
            feeds = random_feeds(graph, 1)
            direction = random_feeds(graph, 2, -2, 2)
            slopes = naive.slopes_of(graph, feeds, direction)
            many = 9
            rows = []
            for t in range(many):
                moved = tuple(tuple(n + t * d for n, d in zip(*pair)) for pair in zip(feeds, direction))
                rows.append(naive.values_of(graph, moved))
            if any(difference(values(rows, out, e), many - 1) for out in graph[1] for e in range(len(rows[0][out]))):
                continue
            done += 1
            for out in graph[1]:
                for e, slope in enumerate(slopes[out]):
                    self.assertEqual(linear_part(values(rows, out, e)), slope)
        self.assertGreater(done, 30)


def values(rows, out, e):
    return [row[out][e] for row in rows]


def difference(row, times):
    for _ in range(times):
        row = [b - a for a, b in zip(row, row[1:])]
    return row[0]


def linear_part(row):
    """Return the coefficient of t of the polynomial with the values row at 0, 1, 2 and so on."""
    # Newton's form: the derivative of (t choose n) at 0 is (-1)^(n-1) / n.
    return sum(Fraction((-1) ** (n - 1) * difference(row, n), n) for n in range(1, len(row)))
