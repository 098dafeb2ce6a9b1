"""Points 1203 and 1204: one-sided slopes, and where there is no derivative."""

import random
import unittest
from fractions import Fraction

from tensorworks.creases import PARTIAL_LIMIT, PARTIAL_WORK, creases, is_gradient, left_slopes, partials, right_slopes
from tensorworks.errors import FeedError, FormError, KindError, RangeError, RoughError, TooLarge
from tensorworks.gradients import gradient_graph
from tensorworks.graphs import work_of
from tensorworks.lines import line_terms
from tensorworks.meaning import evaluate
from tests import naive
from tests.helpers import const, count, error_of, graph_of, random_feeds, scalar, tensor
from tests.smooth import creased_graph, looks_of, moved, rough_graph, smooth_graph
from tests.trainable import unit

X = scalar(-9, 9)


def slopes(nodes, feeds, direction, outs=()):
    """Return the right and the left slopes of the outputs."""
    graph = graph_of(nodes, *outs)
    return right_slopes(graph, feeds, direction), left_slopes(graph, feeds, direction)


def quotients(graph, feeds, direction, side):
    """Return the slopes told by a step so small that what is behind the slope is less than a half."""
    t = Fraction(side, 10 ** 60)
    here, there = naive.values_of(graph, feeds), naive.values_of(graph, moved(feeds, direction, t))
    return tuple(tuple(round((b - a) / t) for a, b in zip(here[out], there[out])) for out in graph[1])


def near_zero(graph, seed):
    """Return feeds that are -1, 0 or 1 where the inputs let them be so."""
    chance = random.Random(seed)
    inputs = [info for kind, _, info in graph[0] if kind == "input"]
    return tuple(tuple(naive.limit(chance.randint(-1, 1), *info[1:]) for _ in range(count(info[0]))) for info in inputs)


def counts_of(graph):
    return [count(info[0]) for kind, _, info in graph[0] if kind == "input"]


class Kinds(unittest.TestCase):
    """Each kind at a crease and beside it."""

    def check(self, nodes, feeds, direction, right, left):
        self.assertEqual(slopes(nodes, feeds, direction), ((right,), (left,)))

    def test_max_and_min(self):
        two = [tensor("k5"), tensor("k5")]
        feeds = ((1, 2, 3, 3, 3), (2, 1, 3, 3, 3))
        direction = ((5, 5, 5, 7, 4), (7, 7, 7, 5, 4))
        self.check(two + [("max", (0, 1), ())], feeds, direction, (7, 5, 7, 7, 4), (7, 5, 5, 5, 4))
        self.check(two + [("min", (0, 1), ())], feeds, direction, (5, 7, 5, 5, 4), (5, 7, 7, 7, 4))
        self.check(two + [("max", (0, 0), ())], feeds, direction, direction[0], direction[0])

    def test_clamp(self):
        clamp = [tensor("k7"), ("clamp", (0,), (-2, 3))]
        feeds = ((-3, -2, -2, 0, 3, 3, 4),)
        self.check(clamp, feeds, ((5, 5, -5, 5, 5, -5, 5),), (0, 5, 0, 5, 0, -5, 0), (0, 0, -5, 5, 5, 0, 0))
        self.check([tensor("k3"), ("clamp", (0,), (2, 2))], ((1, 2, 3),), ((5, 5, 5),), (0, 0, 0), (0, 0, 0))
        self.check([tensor("k2"), ("clamp", (0,), (2, 2))], ((2, 2),), ((-5, 0),), (0, 0), (0, 0))

    def test_peak(self):
        peak = [tensor("k4"), ("peak", (0,), ("k",))]
        for feed, way, right, left in (
                ((1, 2, 3, 0), (5, 6, 7, 8), 7, 7), ((3, 2, 3, 3), (5, 6, 7, 6), 7, 5), ((3, 3, 3, 2), (-5, -6, -7, 9), -5, -7),
                ((1, 1, 1, 1), (4, 4, 4, 4), 4, 4), ((1, 1, 0, 0), (0, 0, 9, 9), 0, 0)):
            self.check(peak, (feed,), (way,), (right,), (left,))
        self.check([tensor("i2k2"), ("peak", (0,), ("i",))], ((1, 4, 1, 3),), ((2, 0, 5, 1),), (5, 0), (2, 0))

    def test_smooth_kinds(self):
        two = [tensor("k2"), tensor("k2")]
        feeds, direction = ((2, -3), (4, 5)), ((1, -2), (3, 1))
        for node, expected in (
                (("add", (0, 1), ()), (4, -1)), (("sub", (0, 1), ()), (-2, -3)), (("mul", (0, 1), ()), (10, -13)),
                (("neg", (0,), ()), (-1, 2)), (("sum", (0,), ("k",)), (-1,)), (("dot", (0, 1), ("k",)), (-3,)),
                (("pad", (0,), ("k", 1, 0)), (0, 1, -2)), (("join", (0, 1), ("k",)), (1, -2, 3, 1)), (("cut", (0,), ("k", 1, 1)), (-2,))):
            self.check(two + [node], feeds, direction, expected, expected)

    def test_choosers(self):
        nodes = [tensor("k2"), const("k2", 0, 3), ("max", (0, 1), ()), ("where", (1, 2, 0), ())]
        self.check(nodes, ((0, 3),), ((5, 6),), (5, 6), (5, 0))
        nodes = [tensor("k2"), const("i3", 9, 0, -4), ("clamp", (0,), (0, 5)), ("gather", (2, 1), ("k",))]
        self.check(nodes, ((0, 5),), ((5, 6),), (0, 5, 5), (6, 0, 0))

    def test_what_is_not_reached(self):
        nodes = [
            X, const("k2", 3, 3), ("max", (1, 1), ()), ("peak", (2,), ("k",)), ("less", (3, 1), ()), ("shift", (2,), (1,)),
            ("clamp", (3,), (3, 4)), ("where", (4, 5, 6), ()), ("mul", (7, 0), ())]
        self.assertEqual(slopes(nodes, ((2,),), ((5,),), (2, 3, 4, 5, 6, 7, 8)),
                         (((0, 0), (0,), (0, 0), (0, 0), (0,), (0, 0), (15, 15)),) * 2)

    def test_behind_a_crease(self):
        """What hangs on a crease has it too, unless it is made flat."""
        absolute = [X, ("neg", (0,), ()), ("max", (0, 1), ())]
        self.check(absolute + [("mul", (2, 2), ())], ((0,),), ((3,),), (0,), (0,))
        self.check(absolute + [("mul", (2, 2), ())], ((2,),), ((3,),), (12,), (12,))
        self.check(absolute + [("add", (2, 0), ())], ((0,),), ((3,),), (6,), (0,))
        self.check(absolute + [("clamp", (2,), (0, 5))], ((0,),), ((3,),), (3,), (-3,))
        self.check(absolute + [("clamp", (2,), (-5, 0))], ((0,),), ((3,),), (0,), (0,))
        self.check(absolute + [("sub", (2, 2), ())], ((0,),), ((3,),), (0,), (0,))
        self.check(absolute + [("neg", (2,), ()), ("max", (2, 3), ())], ((0,),), ((3,),), (3,), (-3,))


class Slopes(unittest.TestCase):
    def test_quotients(self):
        """The slopes are those of exact numbers a small step away, on either side."""
        bent = 0
        for seed in range(300):
            graph = creased_graph(seed)
            feeds, direction = near_zero(graph, seed), random_feeds(graph, seed + 1, -3, 3)
            right, left = right_slopes(graph, feeds, direction), left_slopes(graph, feeds, direction)
            self.assertEqual(right, quotients(graph, feeds, direction, 1))
            self.assertEqual(left, quotients(graph, feeds, direction, -1))
            expected = tuple((k, e) for k, (a, b) in enumerate(zip(right, left)) for e in range(len(a)) if a[e] != b[e])
            self.assertEqual(creases(graph, feeds, direction), expected)
            bent += bool(expected)
        self.assertGreater(bent, 30)

    def test_opposite(self):
        for seed in range(40):
            graph = creased_graph(seed)
            feeds = random_feeds(graph, seed)
            direction = random_feeds(graph, seed + 1, -3, 3)
            back = moved(tuple((0,) * len(row) for row in direction), direction, -1)
            turned = tuple(tuple(-n for n in row) for row in right_slopes(graph, feeds, back))
            self.assertEqual(left_slopes(graph, feeds, direction), turned)

    def test_smooth_graphs(self):
        """All ways to slopes agree: both sides, the slope of point 301 and the coefficient of t."""
        for seed in range(60):
            graph = smooth_graph(seed)
            feeds, direction = random_feeds(graph, seed), random_feeds(graph, seed + 1, -3, 3)
            right = right_slopes(graph, feeds, direction)
            self.assertEqual(right, left_slopes(graph, feeds, direction))
            self.assertEqual(creases(graph, feeds, direction), ())
            exact = naive.slopes_of(graph, feeds, direction)
            self.assertEqual(right, tuple(exact[out] for out in graph[1]))
            lines = line_terms(graph, feeds, direction)
            self.assertEqual(right, tuple(tuple(line[1] if len(line) > 1 else 0 for line in row) for row in lines))

    def test_large_directions(self):
        far = 10 ** 100
        graph = graph_of([X, ("mul", (0, 0), ()), ("clamp", (0,), (0, 4))], 1, 2)
        self.assertEqual(right_slopes(graph, ((4,),), ((far,),)), ((8 * far,), (0,)))
        self.assertEqual(left_slopes(graph, ((4,),), ((far,),)), ((8 * far,), (far,)))


class Creases(unittest.TestCase):
    def test_example(self):
        graph = graph_of([tensor("i2"), ("neg", (0,), ()), ("max", (0, 1), ())])
        self.assertEqual(creases(graph, ((0, 4),), ((1, 1),)), ((0, 0),))
        self.assertEqual(partials(graph, ((0, 4),)), ((((None, 0),), ((0, 1),)),))

    def test_order_of_pairs(self):
        graph = graph_of([tensor("k3"), ("neg", (0,), ()), ("max", (0, 1), ()), ("min", (1, 0), ())], 3, 0, 2, 3)
        self.assertEqual(creases(graph, ((0, 1, 0),), ((1, 1, 2),)), ((0, 0), (0, 2), (2, 0), (2, 2), (3, 0), (3, 2)))
        self.assertEqual(creases(graph, ((0, 1, 0),), ((0, 1, 2),)), ((0, 2), (2, 2), (3, 2)))
        self.assertEqual(creases(graph, ((0, 1, 0),), ((0, 1, 0),)), ())

    def test_several_that_meet(self):
        """Three planes meet: along some directions there is a crease, along others none."""
        graph = graph_of([X, X, const("", 0), ("max", (0, 1), ()), ("max", (3, 2), ())])
        for direction, right, left in (((1, 2), 2, 0), ((-1, -2), 0, -2), ((0, 0), 0, 0), ((-1, 3), 3, -1), ((0, 5), 5, 0)):
            told = tuple((n,) for n in direction)
            self.assertEqual(right_slopes(graph, ((0,), (0,)), told), ((right,),))
            self.assertEqual(left_slopes(graph, ((0,), (0,)), told), ((left,),))
            self.assertEqual(creases(graph, ((0,), (0,)), told), () if right == left else ((0, 0),))

    def test_creases_that_cancel(self):
        graph = graph_of([X, ("neg", (0,), ()), ("max", (0, 1), ()), ("min", (0, 1), ()), ("add", (2, 3), ())], 4, 2)
        self.assertEqual(creases(graph, ((0,),), ((1,),)), ((1, 0),))
        self.assertEqual(partials(graph, ((0,),)), ((((0,),),), (((None,),),)))


class Partials(unittest.TestCase):
    def test_along_each_element(self):
        for seed in range(40):
            graph = creased_graph(seed, 8)
            counts = counts_of(graph)
            if sum(counts) > 12:
                continue
            feeds = random_feeds(graph, seed)
            told = partials(graph, feeds)
            self.assertEqual(len(told), len(graph[1]))
            for k, many in enumerate(counts):
                for e in range(many):
                    right = right_slopes(graph, feeds, unit(counts, k, e))
                    left = left_slopes(graph, feeds, unit(counts, k, e))
                    for row, a, b in zip(told, right, left):
                        self.assertEqual([part[k][e] for part in row], [n if n == m else None for n, m in zip(a, b)])
                    self.assertTrue(all(len(part) == len(counts) and len(part[k]) == many for row in told for part in row))

    def test_no_inputs(self):
        graph = graph_of([const("k2", 1, 2), ("max", (0, 0), ())], 1, 0)
        self.assertEqual(partials(graph, ()), (((), ()), ((), ())))
        self.assertTrue(is_gradient(graph, (), ((1, 2), (3, 4)), ()))
        self.assertEqual(creases(graph, (), ()), ())

    def test_smooth_graphs_have_no_none(self):
        for seed in range(40):
            graph = smooth_graph(seed, 8)
            counts = counts_of(graph)
            if sum(counts) > 16:
                continue
            feeds = random_feeds(graph, seed)
            self.assertNotIn("None", str(partials(graph, feeds)))
            weights = tuple(tuple(random.Random(seed).randint(-3, 3) for _ in row) for row in evaluate(graph, feeds))
            told = evaluate(gradient_graph(graph, -3, 3), feeds + weights)
            self.assertTrue(is_gradient(graph, feeds, weights, told))
            for k, row in enumerate(told):
                for e in range(len(row)):
                    wrong = told[:k] + (row[:e] + (row[e] + 1,) + row[e + 1:],) + told[k + 1:]
                    self.assertFalse(is_gradient(graph, feeds, weights, wrong))


class IsGradient(unittest.TestCase):
    ABSOLUTE = graph_of([X, ("neg", (0,), ()), ("max", (0, 1), ()), ("min", (0, 1), ())], 2, 3)

    def test_creases_may_cancel(self):
        self.assertTrue(is_gradient(self.ABSOLUTE, ((0,),), ((4,), (4,)), ((0,),)))
        self.assertFalse(is_gradient(self.ABSOLUTE, ((0,),), ((4,), (4,)), ((1,),)))
        for told in (-4, 0, 4):
            self.assertFalse(is_gradient(self.ABSOLUTE, ((0,),), ((4,), (3,)), ((told,),)))
        self.assertTrue(is_gradient(self.ABSOLUTE, ((0,),), ((0,), (0,)), ((0,),)))
        self.assertTrue(is_gradient(self.ABSOLUTE, ((2,),), ((5,), (3,)), ((2,),)))
        self.assertTrue(is_gradient(self.ABSOLUTE, ((-2,),), ((5,), (-3,)), ((-8,),)))

    def test_within_an_output(self):
        """Also the creases of two elements of one output may cancel."""
        nodes = [X, ("neg", (0,), ()), ("max", (0, 1), ()), ("spread", (2,), ("k", 2))]
        self.assertTrue(is_gradient(graph_of(nodes), ((0,),), ((7, -7),), ((0,),)))
        self.assertFalse(is_gradient(graph_of(nodes), ((0,),), ((7, -6),), ((0,),)))

    def test_one_side_is_not_enough(self):
        graph = graph_of([X, ("clamp", (0,), (0, 5))])
        for told in (0, 1):
            self.assertFalse(is_gradient(graph, ((0,),), ((1,),), ((told,),)))
            self.assertFalse(is_gradient(graph, ((5,),), ((1,),), ((told,),)))
        self.assertTrue(is_gradient(graph, ((1,),), ((1,),), ((1,),)))
        self.assertTrue(is_gradient(graph, ((-1,),), ((1,),), ((0,),)))

    def test_the_weights_count(self):
        graph = graph_of([tensor("k2"), ("mul", (0, 0), ())], 1, 0, 1)
        self.assertTrue(is_gradient(graph, ((3, -1),), ((1, 2), (10, 20), (0, -1)), ((16, 18),)))
        self.assertFalse(is_gradient(graph, ((3, -1),), ((1, 2), (10, 20), (0, -2)), ((16, 18),)))


def wide_graph(shapes, many):
    """Return a graph with inputs of these shapes and so many further nodes of the work of the first one."""
    nodes = [tensor(word) for word in shapes]
    return graph_of(nodes + [("neg", (0,), ()) for _ in range(many)])


class Errors(unittest.TestCase):
    def check(self, expected, graph, feeds=(), direction=()):
        for call in (right_slopes, left_slopes, creases):
            self.assertIs(error_of(call, graph, feeds, direction), expected)

    def check_partials(self, expected, graph, feeds=(), weights=(), told=()):
        self.assertIs(error_of(partials, graph, feeds), expected)
        self.assertIs(error_of(is_gradient, graph, feeds, weights, told), expected)

    def test_graph_first(self):
        for graph, expected in (
                (((("what", (), ()),), (0,)), KindError), (((), ()), FormError), (graph_of([scalar(3, 1), ("less", (0, 0), ())]), RangeError)):
            self.check(expected, graph)
            self.check_partials(expected, graph)

    def test_rough(self):
        two = [tensor("k2"), tensor("k2")]
        for node in (("less", (0, 1), ()), ("equal", (0, 1), ()), ("shift", (0,), (1,)), ("where", (0, 1, 1), ())):
            self.check(RoughError, graph_of(two + [node], 0))
            self.check_partials(RoughError, graph_of(two + [node], 0))
        self.check(RoughError, graph_of([const("k2", 1, 2), tensor("i2"), ("gather", (0, 1), ("k",))]))
        for node in (("max", (0, 1), ()), ("min", (0, 1), ()), ("clamp", (0,), (0, 1)), ("peak", (0,), ("k",))):
            self.check(FeedError, graph_of(two + [node]))

    def test_rough_at_random(self):
        seen = 0
        for seed in range(80):
            graph = rough_graph(seed)
            feeds = random_feeds(graph, seed)
            expected = RoughError if "rough" in looks_of(graph) else None
            self.check(expected, graph, feeds, feeds)
            seen += expected is None
        self.assertTrue(0 < seen < 80)

    def test_feeds_and_direction(self):
        graph = graph_of([X, tensor("k2")])
        for feeds, direction, expected in (
                ((), (), FeedError), (((1,),), ((1,),), FeedError), (((1,), (1, 1, 1)), (), FeedError), (((10,), (1, 1)), (), RangeError),
                (((10,), (1,)), (), RangeError), (((1,), (1, 1)), (), FeedError), (((1,), (1, 1)), ((1,),), FeedError),
                (((1,), (1, 1)), ((1,), (1,)), FeedError), (((1,), (1, 1)), ((), (1, 1)), FeedError),
                (((1,), (1, 1)), ((1,), (1, 1), ()), FeedError), (((1,), (1, 1)), ((99,), (-99, 1)), None)):
            self.check(expected, graph, feeds, direction)

    def test_partial_feeds(self):
        graph = graph_of([X, tensor("k2"), ("mul", (0, 1), ())], 2, 0)
        feeds, weights, told = ((1,), (2, 3)), ((1, 1), (1,)), ((0,), (0, 0))
        for parts, expected in (
                (((), (), ()), FeedError), ((((10,), (2, 3)), (), ()), RangeError), ((feeds, (), ()), FeedError),
                ((feeds, weights[:1], told), FeedError), ((feeds, weights + weights[1:], told), FeedError),
                ((feeds, weights[::-1], told), FeedError), ((feeds, weights, told[:1]), FeedError), ((feeds, weights, told[::-1]), FeedError),
                ((feeds, weights, told + told[:1]), FeedError), ((feeds, weights, told), None)):
            self.assertIs(error_of(is_gradient, graph, *parts), expected)
        self.assertIs(error_of(partials, graph, ()), FeedError)
        self.assertIs(error_of(partials, graph, ((1,), (2, 10))), RangeError)

    def test_limit_of_elements(self):
        self.assertEqual((PARTIAL_LIMIT, PARTIAL_WORK), (64, 50000))
        eight = wide_graph(("i8k8",), 0)
        self.check_partials(None, eight, ((0,) * 64,), ((0,) * 64,), ((0,) * 64,))
        self.check_partials(TooLarge, wide_graph(("i8k8", ""), 0))
        self.check_partials(TooLarge, graph_of([tensor("i9k8")]))
        self.check_partials(RoughError, graph_of([tensor("i9k8"), ("less", (0, 0), ())]))
        self.check(None, graph_of([tensor("i9k8")]), ((0,) * 72,), ((1,) * 72,))

    def test_limit_of_work(self):
        """With 50 elements 1000 is the greatest work."""
        nodes = [tensor("i5k5"), tensor("j5k5")] + [("neg", (0,), ())] * 40
        self.assertEqual(work_of(graph_of(nodes)), 1000)
        feeds = ((1,) * 25, (2,) * 25)
        self.check_partials(None, graph_of(nodes), feeds, ((1,) * 25,), feeds)
        self.check_partials(TooLarge, graph_of(nodes + [const("", 1), ("neg", (42,), ())]))
        self.check_partials(None, graph_of(nodes + [const("", 1)], 41), feeds, ((1,) * 25,), feeds)

    def test_time(self):
        """As many elements as there may be, and as many nodes whose values do not hang on them."""
        nodes = [tensor("i8k8")] + [("const", (), ((("a", 16), ("b", 16)), (1,) * 256))] * 380 + [("max", (0, 0), ())] * 12
        told = partials(graph_of(nodes), ((3,) * 64,))
        self.assertEqual(sum(part[0][e] for e, part in enumerate(told[0])), 64)
