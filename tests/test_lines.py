"""Points 1201 and 1202: the coefficients of polynomials along a line."""

import unittest

from tensorworks.errors import FeedError, FormError, KindError, RangeError, RoughError, TooLarge
from tensorworks.lines import DEGREE_LIMIT, line_terms, value_at
from tensorworks.meaning import evaluate
from tests import naive
from tests.helpers import const, error_of, graph_of, random_feeds, scalar, tensor
from tests.smooth import looks_of, moved, rough_graph, smooth_graph

X = scalar(-9, 9)


def terms(nodes, feeds, direction):
    """Return the coefficients of the elements of the last node."""
    return line_terms(graph_of(nodes), feeds, direction)[0]


class Kinds(unittest.TestCase):
    """Each kind as a reached node and as one that is not."""

    def test_example(self):
        graph = graph_of([tensor("i2"), ("mul", (0, 0), ())])
        self.assertEqual(line_terms(graph, ((3, -2),), ((1, 0),)), (((9, 6, 1), (4,)),))

    def test_sources(self):
        self.assertEqual(terms([tensor("k4")], ((3, 0, 0, -2),), ((0, 0, 5, -1),)), ((3,), (), (0, 5), (-2, -1)))
        self.assertEqual(terms([const("k2", 0, 7)], (), ()), ((), (7,)))

    def test_sums(self):
        for kind, expected in (("add", ((5, 4), (1,), ())), ("sub", ((1, -2), (5, 6), ()))):
            nodes = [tensor("k3"), tensor("k3"), (kind, (0, 1), ())]
            self.assertEqual(terms(nodes, ((3, 3, 0), (2, -2, 0)), ((1, 3, 0), (3, -3, 0))), expected)
        self.assertEqual(terms([tensor("k2"), ("neg", (0,), ())], ((3, 0),), ((-1, 0),)), ((-3, 1), ()))
        self.assertEqual(terms([tensor("k3"), ("sum", (0,), ("k",))], ((3, 1, -4),), ((-1, 5, 2),)), ((0, 6),))

    def test_products(self):
        nodes = [tensor("k2"), tensor("k2"), ("mul", (0, 1), ()), ("mul", (2, 0), ())]
        self.assertEqual(terms(nodes, ((2, 0), (-1, 0)), ((1, 1), (3, 2))), ((-4, 8, 11, 3), (0, 0, 0, 2)))
        nodes = [tensor("k2"), tensor("k2"), ("dot", (0, 1), ("k",))]
        self.assertEqual(terms(nodes, ((2, 1), (3, -6)), ((1, -1), (1, 1))), ((0, 12),))
        self.assertEqual(terms([X, const("", 0), ("mul", (0, 1), ())], ((4,),), ((1,),)), ((),))
        self.assertEqual(terms([X, const("", -2), ("mul", (1, 0), ())], ((4,),), ((1,),)), ((-8, -2),))

    def test_moves(self):
        feeds, direction = ((1, 2, 3, 4),), ((0, 1, 0, -1),)
        for node, expected in (
                (("cut", (0,), ("k", 1, 2)), ((2, 1), (3,))), (("pad", (0,), ("k", 1, 0)), ((), (1,), (2, 1), (3,), (4, -1))),
                (("join", (0, 0), ("k",)), ((1,), (2, 1), (3,), (4, -1)) * 2), (("rename", (0,), ("k", "z")), ((1,), (2, 1), (3,), (4, -1))),
                (("window", (0,), ("k", "z", 2, 2)), ((1,), (2, 1), (3,), (4, -1))),
                (("spread", (0,), ("z", 2)), ((1,), (1,), (2, 1), (2, 1), (3,), (3,), (4, -1), (4, -1)))):
            self.assertEqual(terms([tensor("k4"), node], feeds, direction), expected)
        nodes = [tensor("k2i2"), ("order", (0,), ("ik",))]
        self.assertEqual(terms(nodes, feeds, direction), ((1,), (3,), (2, 1), (4, -1)))
        nodes = [tensor("k2i2"), ("fold", (0,), ("k", "i", 1, 4))]
        self.assertEqual(terms(nodes, feeds, direction), ((1,), (5, 1), (4, -1), ()))

    def test_choosers(self):
        gather = [tensor("k3"), const("i4", 2, -5, 99, 1), ("gather", (0, 1), ("k",))]
        self.assertEqual(terms(gather, ((1, 2, 3),), ((1, 0, -1),)), ((3, -1), (1, 1), (3, -1), (2,)))
        where = [tensor("k3"), const("k3", 0, 2, -1), ("mul", (0, 0), ()), ("where", (1, 0, 2), ())]
        self.assertEqual(terms(where, ((1, 2, 3),), ((1, 0, -1),)), ((1, 2, 1), (2,), (3, -1)))

    def test_what_is_not_reached(self):
        """Its kind does not matter: comparisons, roundings and choices among numbers stay what they are."""
        nodes = [
            X, const("k3", 1, -5, 8), const("k3", 2, -5, 7), ("less", (1, 2), ()), ("equal", (1, 2), ()), ("max", (1, 2), ()),
            ("min", (1, 2), ()), ("shift", (5,), (1,)), ("clamp", (6,), (-2, 2)), ("peak", (1,), ("k",)), ("where", (3, 7, 8), ()),
            ("gather", (1, 9), ("k",)), ("add", (10, 11), ()), ("mul", (12, 0), ()), ("where", (4, 13, 0), ()), ("gather", (14, 9), ("k",))]
        graph = graph_of(nodes, 3, 4, 5, 6, 7, 8, 9, 10, 11, 13, 14)
        values = naive.values_of(graph, ((3,),))
        told = line_terms(graph, ((3,),), ((2,),))
        for out, row in list(zip(graph[1], told))[:9]:
            self.assertEqual(row, tuple((n,) if n else () for n in values[out]))
        for t in range(-4, 5):
            self.assertEqual(value_at(told, t)[9:], tuple(naive.values_of(graph, ((3 + 2 * t,),))[out] for out in (13, 14)))

    def test_outputs(self):
        graph = graph_of([X, ("neg", (0,), ())], 1, 0, 1)
        self.assertEqual(line_terms(graph, ((2,),), ((1,),)), (((-2, -1),), ((2, 1),), ((-2, -1),)))


class Random(unittest.TestCase):
    def test_values_and_slopes(self):
        moving = 0
        for seed in range(150):
            graph = smooth_graph(seed)
            feeds = random_feeds(graph, seed)
            direction = random_feeds(graph, seed + 1, -3, 3)
            told = line_terms(graph, feeds, direction)
            for t in (0, 1, -1, 2, -7, 1000):
                values = naive.values_of(graph, moved(feeds, direction, t))
                self.assertEqual(value_at(told, t), tuple(values[out] for out in graph[1]))
            slopes = naive.slopes_of(graph, feeds, direction)
            for out, row in zip(graph[1], told):
                self.assertEqual(tuple(line[1] if len(line) > 1 else 0 for line in row), slopes[out])
                self.assertTrue(all(line[-1] != 0 for line in row if line))
                moving += any(len(line) > 1 for line in row)
        self.assertGreater(moving, 150)

    def test_evaluate(self):
        graph = graph_of([tensor("k3", -50, 50), ("mul", (0, 0), ()), ("sum", (1,), ("k",))], 1, 2)
        told = line_terms(graph, ((1, 2, 3),), ((4, -5, 6),))
        for t in range(-7, 8):
            self.assertEqual(value_at(told, t), evaluate(graph, moved(((1, 2, 3),), ((4, -5, 6),), t)))

    def test_any_direction(self):
        far = 10 ** 90
        told = line_terms(graph_of([X, ("mul", (0, 0), ())]), ((3,),), ((far,),))
        self.assertEqual(told, (((9, 6 * far, far * far),),))
        self.assertEqual(value_at(told, -far), (((3 - far * far) ** 2,),))


class ValueAt(unittest.TestCase):
    def test_values(self):
        self.assertEqual(value_at((((9, 6, 1), (4,)), ((),)), 2), ((25, 4), (0,)))
        self.assertEqual(value_at((((9, 6, 1), (4,)), ((),)), 0), ((9, 4), (0,)))
        self.assertEqual(value_at((((0, 0, 0, -1),),), -3), ((27,),))
        self.assertEqual(value_at((), 5), ())


def powers(many):
    """Return the nodes of x to the power many, one factor after the other."""
    return [scalar(-2, 2)] + [("mul", (at, 0), ()) for at in range(many - 1)]


class Degrees(unittest.TestCase):
    def check(self, nodes, expected, feeds=((1,),), direction=((1,),)):
        self.assertIs(error_of(line_terms, graph_of(nodes), feeds, direction), expected)

    def test_limit(self):
        self.assertEqual(DEGREE_LIMIT, 24)
        self.check(powers(24), None)
        self.check(powers(25), TooLarge)
        self.assertEqual(terms(powers(24), ((0,),), ((2,),)), ((0,) * 24 + (2 ** 24,),))

    def test_of_any_node(self):
        """The degree of a node that no output needs counts, and what it really comes to does not."""
        self.check(powers(25) + [("neg", (0,), ())], TooLarge)
        self.check(powers(25) + [const("", 0), ("mul", (24, 25), ())], TooLarge)
        self.check(powers(24) + [const("", 3), ("mul", (23, 24), ())], None)
        self.check(powers(24) + [const("", 3), ("add", (23, 24), ()), ("mul", (25, 25), ())], TooLarge)

    def test_how_kinds_count(self):
        top = powers(24)
        for node in (
                ("add", (23, 0), ()), ("sub", (0, 23), ()), ("neg", (23,), ()), ("spread", (23,), ("k", 2)), ("order", (23,), ("",))):
            self.check(top + [node], None)
            self.check(top + [node, ("mul", (24, 0), ())], TooLarge)
            self.check(powers(23) + [(node[0], tuple(arg and 22 for arg in node[1]), node[2]), ("mul", (23, 0), ())], None)
        twelve = powers(12) + [("spread", (11,), ("k", 2))]
        self.check(twelve + [("dot", (12, 12), ("k",))], None)
        self.check(powers(13) + [("spread", (12,), ("k", 2)), ("dot", (13, 13), ("k",))], TooLarge)
        self.check(twelve + [("dot", (12, 12), ("k",)), ("mul", (13, 0), ())], TooLarge)

    def test_choosers(self):
        where = powers(24) + [const("", 1), ("where", (24, 0, 23), ())]
        self.check(where, None)
        self.check(where + [("mul", (25, 0), ())], TooLarge)
        gather = powers(24) + [("spread", (23,), ("k", 2)), const("", 1), ("gather", (24, 25), ("k",))]
        self.check(gather, None)
        self.check(gather + [("mul", (26, 0), ())], TooLarge)

    def test_still_nodes_have_none(self):
        nodes = [X, const("", 2)] + [("mul", (at, 1), ()) for at in range(1, 40)] + [("mul", (0, 40), ())]
        self.check(nodes, None)

    def test_time(self):
        """Half of the degree in each factor, and all the work that a graph may have."""
        nodes = [tensor("k9", -1, 1)] + [("mul", (at, 0), ()) for at in range(11)] + [("rename", (11,), ("k", "i"))]
        nodes += [("mul", (11, 12), ())] * 300
        told = line_terms(graph_of(nodes), ((1,) * 9,), ((2,) * 9,))
        self.assertEqual(len(told[0][0]), 25)


class Errors(unittest.TestCase):
    def check(self, expected, graph, feeds=(), direction=()):
        self.assertIs(error_of(line_terms, graph, feeds, direction), expected)

    def test_graph(self):
        self.check(KindError, ((("what", (), ()),), (0,)))
        self.check(FormError, ((), ()))
        self.check(RangeError, graph_of([scalar(3, 1), ("max", (0, 0), ())]))

    def test_rough(self):
        two = [tensor("k2"), tensor("k2")]
        for node in (
                ("max", (0, 1), ()), ("min", (0, 1), ()), ("clamp", (0,), (-1, 1)), ("peak", (0,), ("k",)), ("less", (0, 1), ()),
                ("equal", (0, 1), ()), ("shift", (0,), (1,)), ("where", (0, 1, 1), ())):
            self.check(RoughError, graph_of(two + [node]))
            self.check(RoughError, graph_of(two + [node], 0))
        self.check(RoughError, graph_of([tensor("k2"), tensor("i2"), ("gather", (0, 1), ("k",))]))
        self.check(RoughError, graph_of([const("k2", 1, 2), tensor("i2"), ("gather", (0, 1), ("k",))]))
        self.check(RoughError, graph_of([const("k2", 1, 2), tensor("k2"), ("where", (1, 0, 0), ())]))
        self.check(RoughError, graph_of([const("k2", 1, 2), tensor("k2"), ("neg", (1,), ()), ("less", (0, 2), ())]))

    def test_rough_at_random(self):
        seen = 0
        for seed in range(80):
            graph = rough_graph(seed)
            smooth = looks_of(graph) <= {"still", "smooth"}
            feeds = random_feeds(graph, seed)
            self.assertIs(error_of(line_terms, graph, feeds, feeds), None if smooth else RoughError)
            seen += smooth
        self.assertTrue(0 < seen < 80)

    def test_order(self):
        rough = graph_of(powers(25) + [("max", (0, 0), ())])
        self.check(RoughError, rough)
        self.check(TooLarge, graph_of(powers(25)))
        self.check(FeedError, graph_of(powers(24)))
        self.check(RangeError, graph_of([X, tensor("k2")]), ((10,), (0, 0)))
        self.check(FeedError, graph_of([X, tensor("k2")]), ((10,), (0, 0), (0,)))
        self.check(RangeError, graph_of([X, tensor("k2")]), ((10,), (0,)))
        self.check(FeedError, graph_of([X, tensor("k2")]), ((1,), (0,)), ((1,), (0, 0)))

    def test_direction(self):
        graph = graph_of([X, tensor("k2")])
        feeds = ((1,), (2, 3))
        for direction, expected in (
                ((), FeedError), (((1,),), FeedError), (((1,), (1, 1), (1,)), FeedError), (((), (1, 1)), FeedError),
                (((1,), (1,)), FeedError), (((1,), (1, 1, 1)), FeedError), (((10 ** 80,), (-10 ** 80, 0)), None)):
            self.check(expected, graph, feeds, direction)
