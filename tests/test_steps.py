"""Points 1501 and 1502: several steps of descent in one graph."""

import random
import unittest

from tensorworks.building import build
from tensorworks.errors import FeedError, FormError, KindError, RangeError, TooLarge
from tensorworks.graphs import check_graph, inputs_of
from tensorworks.images import run_image
from tensorworks.meaning import evaluate
from tensorworks.pieces import programs_of
from tensorworks.going import run_programs
from tensorworks.scheduling import default_schedule, tuned_schedule
from tensorworks.sessions import Session
from tensorworks.steps import STEP_LIMIT, steps_feeds, steps_graph
from tensorworks.trainer import Trainer
from tensorworks.updating import step_graph
from tests.helpers import const, error_of, graph_of, scalar, tensor
from tests.shared_graphs import full_devices
from tests.trainable import LINE, LINE_BATCHES, WIDE, descent, random_batch, random_trainable, random_weights

SQUARE = graph_of([scalar(-9, 9), ("mul", (0, 0), ())])
SMALL = graph_of([scalar(-9, 9), scalar(-3, 3), ("sub", (0, 1), ()), ("mul", (2, 2), ())])
SMALL_ARGS = (SMALL, (0,), 2, -9, 9)


def one_behind_the_other(args, many):
    """Return what the document says, node by node, from the graph of one step."""
    graph, parameters = args[:2]
    nodes, outs = step_graph(*args)
    inputs = [at for at, node in enumerate(nodes) if node[0] == "input"]
    made, losses, fresh = [], [], None
    for _ in range(many):
        place = {}
        for at, (kind, parts, info) in enumerate(nodes):
            if fresh and at in inputs and inputs.index(at) in parameters:
                place[at] = fresh[parameters.index(inputs.index(at))]
                continue
            place[at] = len(made)
            made.append((kind, tuple(place[part] for part in parts), info))
        fresh = [place[out] for out in outs[:-1]]
        losses.append(place[outs[-1]])
    return tuple(made), tuple(fresh + losses)


class Graphs(unittest.TestCase):
    def test_one_step(self):
        for seed in range(20):
            args = random_trainable(seed)
            self.assertEqual(steps_graph(*args, 1), step_graph(*args))

    def test_two_steps(self):
        nodes, outs = steps_graph(SQUARE, (0,), 3, -5, 6, 2)
        self.assertEqual(nodes[:9], step_graph(SQUARE, (0,), 3, -5, 6)[0])
        self.assertEqual(nodes[9:], (
            ("mul", (8, 8), ()), const("", 1), ("mul", (10, 8), ()), ("mul", (10, 8), ()), ("add", (11, 12), ()),
            ("shift", (13,), (3,)), ("sub", (8, 14), ()), ("clamp", (15,), (-5, 6))))
        self.assertEqual(outs, (16, 1, 9))

    def test_batch_inputs_for_each_step(self):
        nodes, outs = steps_graph(*SMALL_ARGS, 3)
        self.assertEqual([info for kind, _, info in nodes if kind == "input"], [((), -9, 9)] + [((), -3, 3)] * 3)
        self.assertEqual(len(outs), 4)

    def test_node_by_node(self):
        for seed in range(40):
            args = random_trainable(seed)
            for many in (2, 3, 5):
                expected = one_behind_the_other(args, many)
                if error_of(check_graph, expected) is None:
                    self.assertEqual(steps_graph(*args, many), expected)
                else:
                    self.assertIs(error_of(steps_graph, *args, many), error_of(check_graph, expected))

    def test_loss_that_is_a_parameter(self):
        """The loss of a later step is then the new parameter of the step before."""
        nodes, outs = steps_graph(graph_of([scalar(0, 5)]), (0,), 1, 0, 5, 3)
        self.assertEqual(outs, (12, 0, 4, 8))
        self.assertEqual(evaluate((nodes, outs), ((5,),)), ((2,), (5,), (4,), (3,)))

    def test_limit_of_steps(self):
        self.assertEqual(STEP_LIMIT, 20)
        small = graph_of([scalar(-9, 9), ("neg", (0,), ())])
        for many, expected in ((0, RangeError), (-1, RangeError), (21, RangeError), (1, None), (20, None)):
            self.assertIs(error_of(steps_graph, small, (0,), 3, -5, 6, many), expected)
        nodes, outs = steps_graph(small, (0,), 3, -5, 6, 20)
        self.assertEqual((len(outs), len(nodes)), (21, 1 + 20 * (len(step_graph(small, (0,), 3, -5, 6)[0]) - 1)))

    def test_errors(self):
        for args, many, expected in (
                ((((("what", (), ()),), (0,)), (), 0, 5, -5), 0, KindError), ((graph_of([const("", 1)]), (), 0, 5, -5), 0, FormError),
                ((LINE, (), 5, -100, 100), 0, RangeError), ((LINE, (1, 2), 5, -100, 100), 0, RangeError), ((LINE, (1, 2), 5, -100, 100), 21, RangeError),
                ((LINE, (1, 2), 5, -100, 100), 5, None)):
            self.assertIs(error_of(steps_graph, *args, many), expected)

    def test_too_large(self):
        """One step may be valid where several are not; the number of steps is looked at first."""
        nodes = [scalar(-1, 1)] + [("neg", (at,), ()) for at in range(98)]
        args = (graph_of(nodes), (0,), 1, -1, 1)
        self.assertEqual(len(step_graph(*args)[0]), 201)
        self.assertIs(error_of(steps_graph, *args, 1), None)
        self.assertIs(error_of(steps_graph, *args, 2), TooLarge)
        self.assertIs(error_of(steps_graph, *args, 21), RangeError)
        wide = graph_of([scalar(-1, 1)] + [("neg", (at,), ()) for at in range(200)])
        self.assertIs(error_of(steps_graph, wide, (0,), 1, -1, 1, 21), TooLarge)


class Feeds(unittest.TestCase):
    MIXED = graph_of([scalar(0, 9), tensor("k2", -9, 9), scalar(0, 9), tensor("k2", -9, 9), ("mul", (0, 2), ())])

    def test_order(self):
        self.assertEqual(
            steps_feeds(self.MIXED, (1, 2), ((1, 2), (3,)), (((4,), (5, 6)),)), ((4,), (1, 2), (3,), (5, 6)))
        self.assertEqual(
            steps_feeds(self.MIXED, (1, 2), ((1, 2), (3,)), (((4,), (5, 6)), ((7,), (8, 9)), ((0,), (0, 1)))),
            ((4,), (1, 2), (3,), (5, 6), (7,), (8, 9), (0,), (0, 1)))
        self.assertEqual(steps_feeds(self.MIXED, (0, 1, 2, 3), ((1,), (2, 3), (4,), (5, 6)), ((), ())), ((1,), (2, 3), (4,), (5, 6)))
        self.assertEqual(steps_feeds(self.MIXED, (0,), ((1,),), (((2, 3), (4,), (5, 6)),)), ((1,), (2, 3), (4,), (5, 6)))

    def test_errors(self):
        weights, batch = ((1, 2), (3,)), ((4,), (5, 6))
        for graph, told, batches, expected in (
                (((("what", (), ()),), (0,)), (), ((),), KindError), (((), ()), (), ((),), FormError), (self.MIXED, (), ((),), FeedError),
                (self.MIXED, weights[:1], (batch,), FeedError), (self.MIXED, weights + weights, (batch,), FeedError),
                (self.MIXED, weights, ((),), FeedError), (self.MIXED, weights, (batch, batch[:1]), FeedError),
                (self.MIXED, weights, (batch + batch[:1], batch), FeedError), (self.MIXED, weights, (batch, batch), None)):
            self.assertIs(error_of(steps_feeds, graph, (1, 2), told, batches), expected)


class Guarantee(unittest.TestCase):
    def check(self, args, weights, batches, schedule_of, machine=WIDE):
        """Check one run of an image against a trainer, and against a descent that is reckoned out."""
        graph = steps_graph(*args, len(batches))
        image = build(graph, schedule_of(graph, machine), machine)
        told = run_image(image, steps_feeds(args[0], args[1], weights, batches), (3, -4), (2, 0))
        trainer = Trainer(
            args[0], args[1], rate=args[2], low=args[3], high=args[4], schedule=default_schedule(step_graph(*args)),
            machine=machine, weights=weights)
        losses = []
        for batch in batches:
            self.assertEqual(trainer.step(batch, (0,), ()), descent(args, weights, batch)[1])
            weights, loss = descent(args, weights, batch)
            losses.append((loss,))
        self.assertEqual(trainer.weights, weights)
        self.assertEqual(told, weights + tuple(losses))

    def test_line(self):
        args = (LINE, (1, 2), 5, -100, 100)
        for schedule_of in (tuned_schedule, lambda graph, machine: default_schedule(graph)):
            for many in (1, 2, 3):
                self.check(args, ((0,), (0,)), LINE_BATCHES[:many], schedule_of)

    def test_twenty_steps(self):
        chance = random.Random(3)
        batches = tuple(((chance.randint(-3, 3),),) for _ in range(20))
        self.check(SMALL_ARGS, ((9,),), batches, tuned_schedule)

    def test_random(self):
        checked = 0
        for seed in range(25):
            args = random_trainable(seed, 6)
            batches = tuple(random_batch(args, 10 * seed + k) for k in range(3))
            if error_of(steps_graph, *args, 3) is None:
                self.check(args, random_weights(args, seed), batches, tuned_schedule, (250, 8192, 64, 1, 1))
                checked += 1
        self.assertGreater(checked, 15)

    def test_devices_and_sessions(self):
        """Steps on several devices, and a session whose weights change, tell what a trainer does."""
        batches = (((2,),), ((-1,),), ((3,),))
        graph = steps_graph(*SMALL_ARGS, 3)
        many = len(graph[0])
        pieces = tuple(tuple(range(many * k // 3, many * (k + 1) // 3)) for k in range(3))
        programs = programs_of(graph, pieces, 3, (2, 0, 1))
        session = Session(graph, steps_feeds(SMALL, (0,), ((0,),), batches))
        for first in (9, -9, 4):
            weights, losses = ((first,),), []
            for batch in batches:
                weights, loss = descent(SMALL_ARGS, weights, batch)
                losses.append((loss,))
            feeds = steps_feeds(SMALL, (0,), ((first,),), batches)
            self.assertEqual(run_programs(graph, full_devices(3), programs, feeds, (2, 1, 0))[0], weights + tuple(losses))
            session.change(((0, (first,)),))
            self.assertEqual(session.answers, weights + tuple(losses))
        self.assertEqual(len(inputs_of(graph)), 4)
