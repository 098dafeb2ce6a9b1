"""Points 905 and 906: images that run, and the main guarantee."""

import random
import unittest

from tensorworks.building import build
from tensorworks.changes import CHANGES, apply_change
from tensorworks.errors import FeedError, RangeError, TensorError
from tensorworks.gradients import gradient_graph
from tensorworks.images import load_image, run_image, unload_image
from tensorworks.lives import lives
from tensorworks.lowering import lower
from tensorworks.meaning import evaluate
from tensorworks.placing import choose_places
from tensorworks.rewriting import replay, sites
from tensorworks.rules import RULES
from tests.codes import random_delays, random_words
from tests.helpers import const, error_of, graph_of, random_feeds, random_graph, scalar, tensor
from tests.programs import ZERO
from tests.test_building import KEPT, MACHINE, PLACES, SUM, computed, plain
from tests.test_changes import loops_of

SMALL = (64, 12, 20, 1, 1)
IMAGE = build(SUM, ((), KEPT, (), PLACES), SMALL)
FEEDS = ((1, -2, 3),)


class Load(unittest.TestCase):
    def test_memory(self):
        self.assertEqual(load_image(IMAGE, FEEDS, (9,)), (1, -2, 3, 5, 6, 7) + (9,) * 6)
        self.assertEqual(load_image(IMAGE, FEEDS, (1, 2, 3, 4, 5)), (1, -2, 3, 5, 6, 7, 2, 3, 4, 5, 1, 2))
        self.assertEqual(load_image(IMAGE, FEEDS, tuple(range(100)))[6:], (6, 7, 8, 9, 10, 11))

    def test_several_inputs(self):
        nodes = [const("", 9), tensor("k2"), const("i2", -1, 4), scalar(0, 9), ("add", (1, 2), ()), ("max", (4, 3), ())]
        image = build(graph_of(nodes), plain(graph_of(nodes)), (64, 16, 20, 1, 1))
        self.assertEqual(load_image(image, ((7, 8), (5,)), (0,)), (9, 7, 8, -1, 4, 5) + (0,) * 10)

    def test_errors(self):
        top = (1 << 63) - 1
        for feeds, filler, expected in (
                ((), (), FeedError), (FEEDS * 2, (0,), FeedError), (((1, 2),), (0,), FeedError), (((1, 2, 10),), (), RangeError),
                (((1, 2, -10),), (0,), RangeError), (FEEDS, (), FeedError), (FEEDS, (top + 1,), FeedError), (FEEDS, (0, -top - 2), FeedError),
                (FEEDS, (top, -top - 1), None)):
            self.assertIs(error_of(load_image, IMAGE, feeds, filler), expected)
            self.assertIs(error_of(run_image, IMAGE, feeds, filler, ()), expected)
        self.assertIs(error_of(run_image, IMAGE, ((1, 2, 10),), (0,), (-1,)), RangeError)
        self.assertIs(error_of(run_image, IMAGE, FEEDS, (0,), (-1,)), FeedError)
        self.assertIs(error_of(run_image, IMAGE, FEEDS, (0,), (3, -1)), FeedError)


class Unload(unittest.TestCase):
    def test_outputs(self):
        self.assertEqual(unload_image(IMAGE, tuple(range(12))), ((10,), (0, 1, 2), (10,), (3, 4, 5)))


class Run(unittest.TestCase):
    def test_run(self):
        for filler in ((0,), (7, -9), ((1 << 63) - 1,)):
            for delays in ((), (0,), (3,), (1, 50, 0)):
                self.assertEqual(run_image(IMAGE, FEEDS, filler, delays), ((-14,), (1, -2, 3), (-14,), (5, 6, 7)))

    def test_no_computed_nodes(self):
        graph = graph_of([scalar(0, 9), const("k2", 3, 4)], 1, 0)
        image = build(graph, ((), (), (), ()), (64, 3, 20, 1, 1))
        self.assertEqual(run_image(image, ((8,),), (1,), ()), ((3, 4), (8,)))


def random_steps(chance, graph):
    """Return a few steps of rewriting that can be made."""
    steps = []
    for _ in range(chance.randint(0, 2)):
        found = [(rule, node) for rule in RULES for node in sites(graph, rule)]
        if found:
            steps.append(chance.choice(found))
            graph = replay(graph, steps[-1:])
    return tuple(steps), graph


def random_kept(chance, graph):
    """Return computed nodes that can be kept: all of them, or those that must be and some others."""
    needed = set(graph[1])
    for at, (kind, args, _) in enumerate(graph[0]):
        if kind in ("sum", "peak", "dot", "fold"):
            needed.add(at)
        if kind == "gather":
            needed.add(args[0])
    rate = chance.choice([0, 0.5, 1])
    return tuple(at for at in computed(graph) if at in needed or chance.random() < rate)


def random_changes(chance, program):
    """Return a few changes that can be made, and the changed program."""
    changes = []
    for _ in range(chance.randint(0, 4)):
        paths = loops_of(program[1])
        if not paths:
            break
        name, path = chance.choice(CHANGES), chance.choice(paths)
        buffer = chance.randrange(len(program[0]))
        more = {"tile": (2,), "split": (1,), "stage": (buffer, ZERO, program[0][buffer][1], chance.choice(["in", "out", "both"]))}
        change = (name, path) + more.get(name, ())
        try:
            program = apply_change(program, change)
        except TensorError:
            continue
        changes.append(change)
    return tuple(changes), program


class Guarantee(unittest.TestCase):
    """Point 906: what the image computes is what the graph says, whatever schedule and machine it has."""

    def image(self, chance, graph):
        steps, rewritten = random_steps(chance, graph)
        kept = random_kept(chance, rewritten)
        program, places = lower(rewritten, kept)
        changes, program = random_changes(chance, program)
        outs = tuple(places[out] for out in rewritten[1])
        sizes = tuple(size for role, size in program[0] if role == "main")
        given = sum(size for role, size in program[0] if role == "in")
        addresses = choose_places(lives(program, outs), sizes)
        main = given + max([at + size for at, size in zip(addresses, sizes)] + [0])
        near = 20 + sum(size for role, size in program[0] if role == "near")
        machine = (chance.choice([64, 100, 256]), max(1, main), near, chance.randint(1, 4), chance.randint(1, 16))
        schedule = (steps, kept, changes, addresses)
        self.assertIsNotNone(error_of(build, graph, schedule, machine[:1] + (main - 1,) + machine[2:]))
        self.assertIsNotNone(error_of(build, graph, schedule, machine[:2] + (near - 1,) + machine[3:]))
        return build(graph, schedule, machine), bool(steps), len(changes)

    def test_random_graphs(self):
        built = stepped = changed = 0
        for seed in range(120):
            chance = random.Random(seed)
            graph = random_graph(seed, 10, most=27)
            try:
                image, steps, changes = self.image(chance, graph)
            except TensorError:
                continue
            built, stepped, changed = built + 1, stepped + steps, changed + (changes > 0)
            for turn in range(3):
                feeds = random_feeds(graph, turn)
                filler = random_words(turn, 3, -(1 << 31), (1 << 31) - 1)
                self.assertEqual(run_image(image, feeds, filler, random_delays(seed + turn)), evaluate(graph, feeds))
        self.assertTrue(built > 90 and stepped > 15 and changed > 40, (built, stepped, changed))

    def test_gradients(self):
        """Graphs of some size: those of gradients."""
        for seed in range(25):
            try:
                graph = gradient_graph(random_graph(seed, 8, most=27), -2, 2)
            except TensorError:
                continue
            image = build(graph, plain(graph), (256, 16384, 20, 1, 1))
            feeds = random_feeds(graph, seed)
            self.assertEqual(run_image(image, feeds, (5, -5), (2, 0, 1)), evaluate(graph, feeds))

    def test_a_large_graph(self):
        nodes = [("input", (), ((("i", 16), ("k", 16)), -9, 9)), ("input", (), ((("k", 16), ("j", 16)), -9, 9))]
        nodes += [("dot", (0, 1), ("k",)), ("clamp", (2,), (-99, 99)), ("rename", (3,), ("j", "k")), ("dot", (4, 1), ("k",))]
        graph = graph_of(nodes)
        image = build(graph, plain(graph), MACHINE)
        feeds = random_feeds(graph, 1)
        self.assertEqual(run_image(image, feeds, (1,), (7,)), evaluate(graph, feeds))
