"""Points 902 to 904: schedules, build and images."""

import unittest

from tensorworks.auditing import audit_code
from tensorworks.building import Image, build
from tensorworks.device import Device
from tensorworks.errors import (
    ChangeError, FormError, KeptError, KindError, MachineError, NoRoom, PlaceError, RuleError, TooLarge, TooWide)
from tensorworks.graph_terms import graph_terms
from tensorworks.images import load_image
from tensorworks.instructions import check_code
from tensorworks.lowering import lower
from tensorworks.terms import Terms
from tests.helpers import const, error_of, graph_of, random_graph, scalar, tensor
from tests.programs import ZERO, var

MACHINE = (64, 16384, 4096, 1, 1)


def computed(graph):
    return tuple(at for at, node in enumerate(graph[0]) if node[0] not in ("input", "const"))


def rows(sizes, start=0):
    """Return addresses one behind the other."""
    return tuple(start + sum(sizes[:k]) for k in range(len(sizes)))


def plain(graph):
    """Return the schedule without steps and changes that keeps all nodes one behind the other."""
    program, _ = lower(graph, computed(graph))
    return ((), computed(graph), (), rows([size for role, size in program[0] if role == "main"]))


SUM = graph_of([tensor("k3"), const("k3", 5, 6, 7), ("mul", (0, 1), ()), ("sum", (2,), ("k",)), ("neg", (3,), ())], 4, 0, 4, 1)
KEPT = (2, 3, 4)
PLACES = (0, 3, 4)


class Attributes(unittest.TestCase):
    def test_image(self):
        image = build(SUM, ((), KEPT, (), PLACES), MACHINE)
        self.assertIsInstance(image, Image)
        self.assertEqual((image.graph, image.machine), (SUM, MACHINE))
        self.assertEqual(image.program, lower(SUM, KEPT)[0])
        self.assertEqual(image.inputs, (0,))
        self.assertEqual(image.constants, ((3, 5), (4, 6), (5, 7)))
        self.assertEqual(image.outputs, (10, 0, 10, 3))
        self.assertEqual(image.words, 11)
        self.assertIsNone(check_code(MACHINE, image.code))

    def test_places_count_from_behind_the_given_words(self):
        image = build(SUM, ((), KEPT, (), (9, 2, 3)), MACHINE)
        self.assertEqual((image.outputs, image.words), ((9, 0, 9, 3), 18))

    def test_several_inputs_and_constants(self):
        nodes = [const("", 9), tensor("k2"), const("i2", -1, 4), scalar(0, 9), ("add", (1, 2), ()), ("max", (4, 3), ())]
        image = build(graph_of(nodes), plain(graph_of(nodes)), MACHINE)
        self.assertEqual((image.inputs, image.constants), ((1, 5), ((0, 9), (3, -1), (4, 4))))
        self.assertEqual((image.outputs, image.words), ((10,), 14))

    def test_rewritten_graph(self):
        nodes = (tensor("k3"), ("neg", (0,), ()), ("neg", (1,), ()), ("mul", (2, 2), ()))
        image = build((nodes, (3,)), ((("neg-neg", 2),), (2,), (), (0,)), MACHINE)
        self.assertEqual(image.graph, ((tensor("k3"), ("neg", (0,), ()), ("mul", (0, 0), ())), (2,)))
        self.assertEqual((image.outputs, image.words), ((3,), 6))

    def test_changed_program(self):
        change = ("stage", (0,), 0, var(0), 1, "in")
        image = build(SUM, ((), KEPT, (change, ("tile", (0,), 2), ("reverse", (2,))), PLACES), MACHINE)
        self.assertEqual(image.program[0], (("in", 3), ("in", 3), ("main", 3), ("main", 1), ("main", 1), ("near", 1)))
        self.assertEqual(image.program[1][0][1:5], (1, 0, 1, 2))
        self.assertEqual(image.program[1][2][2:4], (2, -1))

    def test_near_buffers(self):
        """They stand one behind the other from the word 0 on; whatever is behind the spare words stays as it is."""
        machine = (64, 32, 50, 1, 1)
        changes = (("stage", (0,), 1, ZERO, 3, "in"), ("stage", (0,), 0, ZERO, 3, "in"))
        image = build(SUM, ((), KEPT, changes, PLACES), machine)
        device = Device(machine, image.code, load_image(image, ((1, -2, 3),), (0,)), (99,) * 50, ())
        while device.step():
            pass
        self.assertEqual([device.near_word(k) for k in range(6)], [5, 6, 7, 1, -2, 3])
        self.assertEqual([device.near_word(k) for k in range(26, 50)], [99] * 24)

    def test_no_nodes_to_store(self):
        image = build(graph_of([scalar(0, 9), const("k2", 3, 4)], 1, 0), ((), (), (), ()), MACHINE)
        self.assertEqual((image.outputs, image.words, image.code), ((1, 0), 3, ()))

    def test_the_audit_accepts_the_code(self):
        machine = (256, 4096, 64, 2, 2)
        for seed in range(60):
            graph = random_graph(seed, 12, most=36)
            image = build(graph, plain(graph), machine)
            table = Terms()
            terms = graph_terms(table, graph)
            main = [None] * machine[1]
            inputs = [row for row, node in zip(terms, graph[0]) if node[0] == "input"]
            for at, row in zip(image.inputs, inputs):
                main[at:at + len(row)] = row
            for at, word in image.constants:
                main[at] = table.number(word)
            end = audit_code(table, machine, image.code, tuple(main))
            for at, out in zip(image.outputs, graph[1]):
                self.assertEqual(end[at:at + len(terms[out])], terms[out])


def error(graph=SUM, steps=(), kept=KEPT, changes=(), places=PLACES, machine=MACHINE):
    return error_of(build, graph, (steps, kept, changes, places), machine)


class Errors(unittest.TestCase):
    """Each one alone, and with those behind it in the order of the list."""

    def test_graph_and_machine(self):
        self.assertIs(error(((), ()), machine=(0,) * 5), FormError)
        self.assertIs(error(graph_of([("no", (), ())])), KindError)
        self.assertIs(error(machine=(0,) * 5, steps=(("none", 0),)), MachineError)
        self.assertIs(error(machine=MACHINE[:4] + (17,)), MachineError)

    def test_steps(self):
        for steps in ((("none", 0),), (("neg-neg", 4),), (("add-swap", 99),), (("mul-swap", 2), ("neg-neg", 2))):
            self.assertIs(error(steps=steps, kept=()), RuleError)
        self.assertIsNone(error(steps=(("mul-swap", 2),)))

    def test_kept(self):
        self.assertIs(error(kept=(), changes=(("none", ()),)), KeptError)
        self.assertIs(error(kept=(2, 3)), KeptError)
        self.assertIs(error(steps=(("sum-dot", 3),), kept=KEPT, places=PLACES), None)
        self.assertIs(error(steps=(("sum-dot", 3),), kept=(2, 4)), KeptError)

    def test_sizes_of_the_program(self):
        nodes = [scalar(-1, 1)] + [("neg", (at,), ()) for at in range(12)]
        self.assertIs(error(graph_of(nodes), kept=(12,), changes=(("none", ()),), places=()), TooLarge)

    def test_changes(self):
        for changes in ((("none", (0,)),), (("tile", (0,), 4),), (("reverse", (9,)),), (("reverse", (0,)), ("split", (0,), 1))):
            self.assertIs(error(changes=changes, machine=(32, 1, 16, 1, 1), places=()), ChangeError)
        self.assertIsNone(error(changes=(("reverse", (0,)), ("reverse", (0,)))))

    def test_inputs_that_are_too_wide(self):
        for low, high, expected in (
                (-(1 << 31), (1 << 31) - 1, None), (0, 1 << 31, TooWide), (-(1 << 31) - 1, 0, TooWide)):
            graph = graph_of([scalar(low, high), ("min", (0, 0), ())])
            self.assertIs(error(graph, kept=(1,), places=(0,), machine=(32,) + MACHINE[1:]), expected)
            graph = graph_of([scalar(low, high), scalar(0, 1), ("neg", (1,), ())])
            self.assertIs(error(graph, kept=(2,), places=(0,), machine=(32,) + MACHINE[1:]), expected)

    def test_data_that_are_too_wide(self):
        for n, expected in (((1 << 31) - 1, None), (1 << 31, TooWide), (-(1 << 31), None), (-(1 << 31) - 1, TooWide)):
            graph = graph_of([const("k2", 0, n), scalar(0, 1), ("neg", (1,), ())])
            self.assertIs(error(graph, kept=(2,), places=(0,), machine=(32,) + MACHINE[1:]), expected)

    def test_clamps_that_are_too_wide(self):
        for info, expected in (
                ((-(1 << 31), (1 << 31) - 1), None), ((0, 1 << 31), TooWide), ((-(1 << 31) - 1, 0), TooWide)):
            graph = graph_of([scalar(0, 1), ("clamp", (0,), info), ("neg", (0,), ())])
            self.assertIs(error(graph, kept=(1, 2), places=(0, 1), machine=(32,) + MACHINE[1:]), expected)
            nested = graph_of([scalar(0, 1), ("clamp", (0,), info), ("neg", (1,), ())])
            self.assertIs(error(nested, kept=(2,), places=(0,), machine=(32,) + MACHINE[1:]), expected)
            looped = graph_of([tensor("i2k2", 0, 1), ("clamp", (0,), info), ("neg", (1,), ())])
            self.assertIs(error(looped, kept=(2,), places=(0,), machine=(32,) + MACHINE[1:]), expected)
            unused = graph_of([scalar(0, 1), ("clamp", (0,), info), ("neg", (0,), ())])
            self.assertIsNone(error(unused, kept=(2,), places=(0,), machine=(32,) + MACHINE[1:]))

    def test_results_that_are_too_wide(self):
        narrow = (32,) + MACHINE[1:]
        for low, kind, expected in ((-(1 << 31) + 1, "neg", None), (-(1 << 31), "neg", TooWide), (1 << 30, "add", TooWide), ((1 << 30) - 1, "add", None)):
            args = (0,) if kind == "neg" else (0, 0)
            graph = graph_of([scalar(min(low, 0), max(low, 0)), (kind, args, ())])
            self.assertIs(error(graph, kept=(1,), places=(0,), machine=narrow), expected)
            inner = graph_of([scalar(min(low, 0), max(low, 0)), (kind, args, ()), ("less", (1, 0), ())])
            self.assertIs(error(inner, kept=(2,), places=(0,), machine=narrow), expected)

    def test_terms_count_not_intervals_of_nodes(self):
        """The interval of x less x is that of a node, its term is the number 0."""
        top = (1 << 31) - 1
        graph = graph_of([scalar(-top, top), ("sub", (0, 0), ())])
        self.assertIsNone(error(graph, kept=(1,), places=(0,), machine=(32,) + MACHINE[1:]))

    def test_nodes_that_fit(self):
        """Without changes there is no TooWide where all intervals and clamps fit."""
        for seed in range(40):
            graph = random_graph(seed, 12, most=27, wide=(1 << 31) - 1)
            self.assertIsNone(error_of(build, graph, plain(graph), (32, 16384, 20, 1, 1)), seed)

    def test_places(self):
        wide = (32, 1, 16, 1, 1)
        self.assertIs(error(places=(), machine=wide), PlaceError)
        for places in ((), (0, 3), (0, 3, 4, 5), (-1, 3, 4), (0, 2, 4), (0, 3, 3)):
            self.assertIs(error(places=places), PlaceError, places)
        for places in ((0, 3, 2), (0, 3, 0), (1, 0, 1), (0, 9, 99)):
            self.assertIsNone(error(places=places), places)

    def test_outputs_live_to_the_end(self):
        nodes = [tensor("k2"), ("neg", (0,), ()), ("neg", (1,), ()), ("neg", (2,), ())]
        self.assertIsNone(error(graph_of(nodes), kept=(1, 2, 3), places=(0, 2, 0)))
        self.assertIs(error(graph_of(nodes, 1, 3), kept=(1, 2, 3), places=(0, 2, 0)), PlaceError)
        self.assertIsNone(error(graph_of(nodes, 1, 3), kept=(1, 2, 3), places=(0, 2, 4)))

    def test_room_in_main_memory(self):
        for main, expected in ((11, None), (10, NoRoom)):
            self.assertIs(error(machine=(64, main, 20, 1, 1)), expected)
        for main, expected in ((10, None), (9, NoRoom)):
            self.assertIs(error(places=(0, 3, 0), machine=(64, main, 20, 1, 1)), expected)
        self.assertIs(error(places=(0, 3, 10 ** 30)), NoRoom)
        nodes = [scalar(0, 9), const("k4", 1, 2, 3, 4)]
        for main, expected in ((5, None), (4, NoRoom)):
            self.assertIs(error(graph_of(nodes), kept=(), places=(), machine=(64, main, 20, 1, 1)), expected)

    def test_room_in_near_memory(self):
        stage = ("stage", (0,), 0, ZERO, 3, "in")
        for near, changes, expected in ((20, (), None), (19, (), NoRoom), (23, (stage,), None), (22, (stage,), NoRoom), (26, (stage, stage), NoRoom)):
            if changes == (stage, stage):
                changes = (stage, ("stage", (0,), 1, ZERO, 3, "in"))
                self.assertIsNone(error(changes=changes, machine=(64, 99, 26, 1, 1)))
                self.assertIs(error(changes=changes, machine=(64, 99, 25, 1, 1)), NoRoom)
                continue
            self.assertIs(error(changes=changes, machine=(64, 99, near, 1, 1)), expected)

    def test_order(self):
        """Too wide, then places, then room."""
        wide = graph_of([scalar(0, 1 << 40), ("neg", (0,), ())])
        small = (32, 1, 16, 1, 1)
        self.assertIs(error(wide, kept=(1,), places=(), machine=small), TooWide)
        self.assertIs(error(wide, kept=(1,), places=(), machine=(64,) + small[1:]), PlaceError)
        self.assertIs(error(wide, kept=(1,), places=(0,), machine=(64,) + small[1:]), NoRoom)
        self.assertIs(error(wide, kept=(1,), changes=(("none", ()),), places=(), machine=small), ChangeError)
        self.assertIs(error(wide, kept=(), changes=(("none", ()),), places=(), machine=small), KeptError)
        self.assertIs(error(wide, steps=(("none", 0),), kept=(), machine=small), RuleError)

