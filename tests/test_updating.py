"""Point 1101: the graph of one step of descent."""

import unittest

from tensorworks.errors import AxisError, FormError, KindError, RangeError, TooLarge, TooWide
from tensorworks.gradients import gradient_graph
from tensorworks.graphs import check_graph
from tensorworks.meaning import evaluate
from tensorworks.updating import step_graph
from tests.helpers import const, error_of, graph_of, scalar, tensor
from tests.trainable import LINE, descent, merged, random_batch, random_trainable, random_weights

SQUARE = graph_of([scalar(-9, 9), ("mul", (0, 0), ())])


class Nodes(unittest.TestCase):
    def test_square(self):
        nodes, outs = step_graph(SQUARE, (0,), 3, -5, 6)
        self.assertEqual(nodes, SQUARE[0] + (
            const("", 1), ("mul", (2, 0), ()), ("mul", (2, 0), ()), ("add", (3, 4), ()),
            ("shift", (5,), (3,)), ("sub", (0, 6), ()), ("clamp", (7,), (-5, 6))))
        self.assertEqual(outs, (8, 1))

    def test_like_the_gradient(self):
        """The nodes are those of the graph of the gradient, but for the weight; then three for each parameter."""
        for seed in range(30):
            args = random_trainable(seed)
            graph, parameters, rate, low, high = args
            nodes, outs = step_graph(*args)
            slopes, answers = gradient_graph(graph, 1, 1)
            many = len(graph[0])
            self.assertEqual(slopes[many], ("input", (), ((), 1, 1)))
            self.assertEqual(nodes[:len(slopes)], slopes[:many] + (const("", 1),) + slopes[many + 1:])
            places = [at for at, node in enumerate(graph[0]) if node[0] == "input"]
            at = len(slopes)
            for k, out in zip(parameters, outs):
                self.assertEqual(nodes[at:at + 3], (
                    ("shift", (answers[k],), (rate,)), ("sub", (places[k], at), ()), ("clamp", (at + 1,), (low, high))))
                self.assertEqual(out, at + 2)
                at += 3
            self.assertEqual((len(nodes), outs[-1], len(outs)), (at, graph[1][0], len(parameters) + 1))
            inputs = [node for node in nodes if node[0] == "input"]
            self.assertEqual(inputs, [node for node in graph[0] if node[0] == "input"])

    def test_input_without_gradient(self):
        graph = graph_of([scalar(0, 5), scalar(0, 5), ("neg", (1,), ())])
        nodes, outs = step_graph(graph, (0, 1), 1, 0, 5)
        self.assertEqual(nodes[3:6], (const("", 1), ("neg", (3,), ()), const("", 0)))
        self.assertEqual(nodes[6], ("shift", (5,), (1,)))
        self.assertEqual(nodes[9], ("shift", (4,), (1,)))

    def test_loss_that_is_an_input(self):
        nodes, outs = step_graph(graph_of([scalar(0, 5)]), (0,), 1, 0, 5)
        self.assertEqual(nodes[1:], (const("", 1), ("shift", (1,), (1,)), ("sub", (0, 2), ()), ("clamp", (3,), (0, 5))))
        self.assertEqual(outs, (4, 0))

    def test_values(self):
        for seed in range(60):
            args = random_trainable(seed)
            weights, batch = random_weights(args, seed), random_batch(args, seed)
            *fresh, loss = evaluate(step_graph(*args), merged(args[1], weights, batch))
            self.assertEqual((tuple(fresh), loss[0]), descent(args, weights, batch))

    def test_rounding_and_limits(self):
        graph = step_graph(SQUARE, (0,), 2, -5, 4)
        for weight, expected in ((4, 2), (3, 1), (1, 0), (-1, -1), (-3, -2), (-5, -3), (0, 0)):
            self.assertEqual(evaluate(graph, ((weight,),)), ((expected,), (weight * weight,)))
        graph = step_graph(graph_of([scalar(-9, 9), ("neg", (0,), ())]), (0,), 1, -5, 4)
        self.assertEqual(evaluate(graph, ((9,),)), ((4,), (-9,)))


class Errors(unittest.TestCase):
    def check(self, expected, graph=LINE, parameters=(1, 2), rate=3, low=-100, high=100):
        self.assertIs(error_of(step_graph, graph, parameters, rate, low, high), expected)

    def test_graph(self):
        self.check(KindError, ((("what", (), ()),), (0,)), (), 0, 5, -5)
        self.check(FormError, ((), ()), (), 0)
        self.check(AxisError, graph_of([tensor("k2k2")]), (), 0)

    def test_trainable(self):
        self.check(FormError, graph_of([const("", 1)]), (), 0)
        self.check(FormError, graph_of([scalar(0, 1), ("neg", (0,), ())], 1, 1), (), 0)
        self.check(FormError, graph_of([scalar(0, 1), ("neg", (0,), ())], 1, 0), (), 0)
        self.check(FormError, graph_of([tensor("k2"), ("neg", (0,), ())]), (), 0)
        self.check(FormError, graph_of([tensor("k1"), ("neg", (0,), ())]), (), 0)
        self.check(None)

    def test_parameters(self):
        for parameters in ((), (2, 1), (1, 1), (-1,), (4,), (0, 4), (1, 2, 3, 4), (-1, 0)):
            self.check(RangeError, parameters=parameters)
        for parameters in ((-1,), (0, 0), (1,), ()):
            self.check(RangeError, SQUARE, parameters, low=-5, high=5)
        self.check(None, parameters=(1,))
        self.check(None, parameters=(0, 1, 2, 3), low=-5, high=5)
        self.check(None, parameters=(0, 3), low=-5, high=5)

    def test_rates(self):
        for rate, expected in ((0, RangeError), (31, RangeError), (-1, RangeError), (1, None), (30, None)):
            self.check(expected, rate=rate)

    def test_limits(self):
        for low, high, expected in (
                (5, 4, RangeError), (4, 4, None), (-101, 0, RangeError), (0, 101, RangeError), (-100, 100, None), (200, 100, RangeError)):
            self.check(expected, low=low, high=high)
        self.check(RangeError, parameters=(1, 3), low=-51, high=50)
        self.check(RangeError, parameters=(1, 3), low=-50, high=51)
        self.check(None, parameters=(1, 3), low=-50, high=50)

    def test_result(self):
        """The result may have too many nodes or be too wide where the graph is not."""
        nodes = [scalar(-1, 1)] + [("neg", (at,), ()) for at in range(200)]
        self.check(TooLarge, graph_of(nodes), (0,), low=0, high=0)
        self.check(None, graph_of(nodes[:190]), (0,), low=0, high=0)
        top = 1 << 99
        wide = graph_of([scalar(-top, top), ("mul", (0, 0), ())])
        check_graph(wide)
        self.check(None, wide, (0,))
        nodes = [scalar(0, 1 << 198), scalar(-1, 1), ("mul", (0, 1), ())] + [("clamp", (2,), (0, 0))] * 5
        far = graph_of(nodes + [("add", (3, 4), ())] + [("add", (at, at), ()) for at in (5, 6, 7)] + [
            ("add", (8, 9), ()), ("add", (12, 10), ()), ("add", (13, 11), ())])
        check_graph(far)
        self.check(TooWide, far, (1,), low=0, high=0)
        for rate in (0, 31):
            self.check(RangeError, far, (1,), rate=rate, low=0, high=0)
        self.check(RangeError, far, (1,), low=1, high=0)
