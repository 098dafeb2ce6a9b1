"""Point 907: the default schedule and the tuned one."""

import unittest
from unittest import mock

from tensorworks.building import build
from tensorworks.certifying import certify
from tensorworks.errors import FormError, KindError, MachineError, NoRoom, TensorError, TooWide
from tensorworks.gradients import gradient_graph
from tensorworks.images import run_image
from tensorworks.kinds import KINDS
from tensorworks.lives import lives
from tensorworks.meaning import evaluate
from tensorworks.scheduling import default_schedule, tuned_schedule
from tests.helpers import error_of, graph_of, random_feeds, random_graph, scalar, tensor
from tests.test_building import MACHINE, SUM, computed, plain

BAD = ((("what", (), ()),), (0,))
SMALL = (64, 16384, 20, 2, 4)


class Default(unittest.TestCase):
    def test_examples(self):
        self.assertEqual(default_schedule(SUM), ((), (2, 3, 4), (), (0, 3, 4)))
        self.assertEqual(default_schedule(graph_of([scalar(0, 1)])), ((), (), (), ()))
        self.assertEqual(default_schedule(graph_of([tensor("i2k3"), ("neg", (0,), ()), ("sum", (1,), ("i",)), ("neg", (1,), ())])),
                         ((), (1, 2, 3), (), (0, 6, 9)))

    def test_any_graph(self):
        for seed in range(30):
            graph = random_graph(seed, 12)
            self.assertEqual(default_schedule(graph), plain(graph))

    def test_words(self):
        """All computed nodes, inputs and consts have words of their own."""
        image = build(SUM, default_schedule(SUM), MACHINE)
        self.assertEqual((image.words, image.outputs), (11, (10, 0, 10, 3)))

    def test_errors(self):
        self.assertIs(error_of(default_schedule, BAD), KindError)
        self.assertIs(error_of(default_schedule, ((), ())), FormError)


class Tuned(unittest.TestCase):
    def check(self, graph, machine=SMALL):
        """Check the words of both images, and what they compute; return the image of the tuned schedule."""
        first = build(graph, default_schedule(graph), machine)
        schedule = tuned_schedule(graph, machine)
        image = build(graph, schedule, machine)
        self.assertLessEqual(image.words, first.words)
        feeds = random_feeds(graph, 3)
        for made in (first, image):
            self.assertEqual(run_image(made, feeds, (5, -7), (2, 0, 5)), evaluate(graph, feeds))
        self.assertTrue(certify(graph, machine, image.code, image.inputs, image.constants, image.outputs))
        return image

    def test_fewer_words(self):
        nodes = [tensor("k8"), ("neg", (0,), ()), ("neg", (1,), ()), ("neg", (2,), ()), ("sum", (3,), ("k",))]
        self.assertEqual(self.check(graph_of(nodes)).words, 9)
        self.assertEqual(build(graph_of(nodes), default_schedule(graph_of(nodes)), SMALL).words, 33)

    def test_places_are_shared(self):
        """Nodes that are used several times are kept, and stand in the words of those that nothing needs any more."""
        nodes = [tensor("k8")]
        for at in range(6):
            nodes.extend([("mul", (2 * at, 2 * at), ()), ("clamp", (2 * at + 1,), (-3, 3))])
        graph = graph_of(nodes)
        image = self.check(graph)
        self.assertLessEqual(image.words, 8 + 16)

    def test_nodes_used_twice_are_kept(self):
        nodes = [tensor("k8"), ("neg", (0,), ()), ("mul", (1, 1), ()), ("sum", (1,), ("k",)), ("add", (2, 3), ())]
        graph = graph_of(nodes)
        self.assertEqual(tuned_schedule(graph, SMALL)[1], (1, 3, 4))
        self.check(graph)

    def test_no_element_is_evaluated_more_often(self):
        """What a user reads several times is kept, as if it had several users."""
        spread = [scalar(-4, 4), ("mul", (0, 0), ()), ("spread", (1,), ("k", 9))]
        self.assertEqual(tuned_schedule(graph_of(spread), SMALL)[1], (1, 2))
        wide = [tensor("k3"), tensor("k3j3"), ("neg", (0,), ()), ("dot", (2, 1), ("k",))]
        self.assertEqual(tuned_schedule(graph_of(wide), SMALL)[1], (2, 3))
        self.assertEqual(tuned_schedule(graph_of(wide[:1] + wide[2:3] + [("dot", (1, 0), ("k",))]), SMALL)[1], (2,))
        fold = [tensor("k2i2"), ("neg", (0,), ()), ("fold", (1,), ("k", "i", 1, 9))]
        self.assertEqual(tuned_schedule(graph_of(fold), SMALL)[1], (2,))
        window = [tensor("k8"), ("neg", (0,), ()), ("window", (1,), ("k", "w", 3, 1)), ("sum", (2,), ("w",))]
        self.assertEqual(tuned_schedule(graph_of(window), SMALL)[1], (1, 3))

    def test_keeping_all_may_be_better(self):
        """If the small node 2 is not kept the large node 1 lives until the end, with two others of its size."""
        nodes = [
            tensor("k8", -2, 2), ("mul", (0, 0), ()), ("cut", (1,), ("k", 0, 1)), ("sum", (1,), ("k",)), ("spread", (3,), ("k", 8)),
            ("mul", (4, 4), ()), ("mul", (5, 5), ()), ("sum", (6,), ("k",)), ("sub", (2, 7), ())]
        graph = graph_of(nodes)
        schedule = tuned_schedule(graph, SMALL)
        self.assertIn(2, schedule[1])
        self.assertLess(self.check(graph).words, 8 + 3 * 8)

    def test_peak(self):
        """The first element of a peak stands in two expressions, but each element is evaluated once."""
        nodes = [tensor("k8"), ("neg", (0,), ()), ("peak", (1,), ("k",))]
        self.assertEqual(tuned_schedule(graph_of(nodes), SMALL)[1], (2,))
        self.check(graph_of(nodes))

    def test_deep_graphs(self):
        for kind, info in (("neg", ()), ("pad", ("k", 0, 0)), ("shift", (1,))):
            nodes = [tensor("k2")]
            nodes.extend((kind, (at,), info) for at in range(60))
            image = self.check(graph_of(nodes))
            self.assertLess(image.words, 60)

    def test_moves_that_add_up(self):
        """Strides that multiply, and cuts and pads that add up, come to the limits of affine forms, and not beyond."""
        three = [("input", (), ((("i", 1),), -9, 9))]
        three.extend([("window", (0,), ("i", "a", 1, 16)), ("window", (1,), ("i", "b", 1, 16)), ("window", (2,), ("i", "c", 1, 16))])
        self.assertEqual(tuned_schedule(graph_of(three), SMALL)[1], (3,))
        self.check(graph_of(three))
        wide = ("input", (), ((("i", 1), ("k", 16), ("j", 16)), -9, 9))
        self.check(graph_of([wide, ("window", (0,), ("i", "a", 1, 16)), ("pad", (1,), ("a", 0, 0)), ("cut", (2,), ("k", 3, 13))]))
        nodes = [("input", (), ((("k", 16), ("j", 16)), -9, 9))]
        for at in range(0, 12, 2):
            nodes.extend([("cut", (at,), ("k", 1, 15 - at // 2)), ("cut", (at + 1,), ("j", 1, 15 - at // 2))])
        self.check(graph_of(nodes))

    def test_limits_of_loop_programs(self):
        """Where the expressions would be too deep all nodes are kept."""
        nodes = [tensor("k2")]
        nodes.extend(("neg", (at,), ()) for at in range(30))
        with mock.patch("tensorworks.scheduling.LEVELS", 99):
            self.assertEqual(tuned_schedule(graph_of(nodes), SMALL)[1], tuple(range(1, 31)))

    def test_random_graphs(self):
        fewer = 0
        for seed in range(60):
            graph = random_graph(seed, 14, most=40)
            image = self.check(graph)
            fewer += image.words < build(graph, default_schedule(graph), SMALL).words
        self.assertGreater(fewer, 40)

    def test_each_kind(self):
        for number, kind in enumerate(KINDS):
            graph = random_graph(number, 10, ("input", "const", kind, "neg", "rename", "order", "spread"), most=40)
            self.check(graph)

    def test_gradients(self):
        for seed in range(8):
            graph = random_graph(seed, 7, most=16)
            if any(graph[0][at][0] == "input" for at in graph[1]):
                continue
            try:
                graph = gradient_graph(graph, -2, 2)
            except TensorError:
                continue
            self.check(graph, (200, 16384, 20, 1, 1))

    def test_just_enough_words(self):
        """With as many words as the default schedule uses both are built; with fewer the tuned one may still be."""
        for seed in range(20):
            graph = random_graph(seed, 10, most=30)
            words = build(graph, default_schedule(graph), SMALL).words
            machine = (64, words, 20, 1, 1)
            image = self.check(graph, machine)
            tight = (64, max(image.words, 1), 20, 1, 1)
            self.assertEqual(build(graph, tuned_schedule(graph, tight), tight).words, image.words)
            if words > 1:
                less = (64, words - 1, 20, 1, 1)
                self.assertIs(error_of(build, graph, default_schedule(graph), less), NoRoom)
                tuned_schedule(graph, less)

    def test_refused_graphs(self):
        """Whatever build says of the default schedule, a schedule is returned."""
        nodes = [scalar(-2 ** 40, 2 ** 40), ("mul", (0, 0), ()), ("neg", (1,), ())]
        for machine, expected in (((32, 9, 20, 1, 1), TooWide), ((90, 2, 20, 1, 1), NoRoom), ((90, 9, 19, 1, 1), NoRoom)):
            graph = graph_of(nodes)
            self.assertIs(error_of(build, graph, default_schedule(graph), machine), expected)
            self.assertEqual(len(tuned_schedule(graph, machine)), 4)

    def test_large_graphs(self):
        square = (("i", 16), ("k", 16))
        nodes = [("input", (), (square, -9, 9))]
        nodes.extend(("add", (at, 0), ()) for at in range(190))
        schedule = tuned_schedule(graph_of(nodes), SMALL)
        self.assertLess(len(schedule[1]), 60)
        nodes = [("const", (), (square, tuple(range(256))))]
        nodes.extend(("neg", (at,), ()) for at in range(195))
        graph = graph_of(nodes)
        image = build(graph, tuned_schedule(graph, SMALL), SMALL)
        self.assertLessEqual(image.words, 3 * 256)
        self.assertEqual(default_schedule(graph)[3][-1], 194 * 256)

    def test_errors(self):
        for graph, machine, expected in (
                (BAD, (), KindError), (BAD, (31, 9, 20, 1, 1), KindError), (((), ()), (31, 9, 20, 1, 1), FormError),
                (SUM, (31, 9, 20, 1, 1), MachineError), (SUM, (64, 0, 20, 1, 1), MachineError),
                (SUM, (64, 1, 20, 1, 17), MachineError), (SUM, (32, 1, 16, 1, 1), None)):
            self.assertIs(error_of(tuned_schedule, graph, machine), expected)

    def test_lives(self):
        """The places are right for the lives of the kept nodes of the tuned schedule."""
        graph = random_graph(5, 14)
        schedule = tuned_schedule(graph, SMALL)
        image = build(graph, schedule, SMALL)
        self.assertEqual(len(schedule[3]), len(lives(image.program, ())))
        self.assertLessEqual(set(schedule[1]), set(computed(graph)))
