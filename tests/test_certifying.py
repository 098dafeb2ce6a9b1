"""Point 908: whether code from anywhere computes a graph."""

import unittest

from tensorworks.building import build
from tensorworks.certifying import certify
from tensorworks.errors import FormError, KindError, MachineError, PlaceError, RangeError, TooLarge, TooWide
from tests.helpers import const, error_of, graph_of, random_graph, scalar, tensor
from tests.test_building import plain
from tests.test_instructions import nested

MACHINE = (32, 16, 16, 2, 4)
# The outputs are the dot of an input of 3 elements and a const, and the input.
DOT = graph_of([tensor("k3"), const("k3", 2, -1, 3), ("dot", (0, 1), ("k",))], 2, 0)
CONSTANTS = ((3, 2), (4, -1), (5, 3))
PLACES = ((0,), CONSTANTS, (6, 0))


def fetch(n, m, count, q=0):
    return (("in", q, 0, n, 0, m, count), ("wait", q))


GIVE = (("store", 0, 8, 3), ("out", 0, 0, 6, 0, 8, 1))
MAC = fetch(0, 0, 6) + (("set", 1, 3), ("mac", 3, 0, 1, 1, 1, 3)) + GIVE
VECTOR = fetch(0, 0, 3) + fetch(3, 3, 3, 1) + (
    ("set", 1, 3), ("set", 2, 9), ("vector", "mul", 2, 0, 1, 3), ("loop", 1, 2, -1, 3), ("load", 4, 1, 9), ("do", "add", 3, (3, 4), ()),
    ("end",)) + GIVE
PLAIN = fetch(0, 0, 3) + (
    ("load", 1, 0, 0), ("load", 2, 0, 1), ("load", 4, 0, 2), ("do", "add", 3, (1, 1), ()), ("do", "sub", 3, (3, 2), ()),
    ("set", 5, 3), ("do", "mul", 5, (4, 5), ()), ("do", "add", 3, (5, 3), ())) + GIVE


def told(code, graph=DOT, machine=MACHINE, inputs=(0,), constants=CONSTANTS, outputs=(6, 0)):
    return certify(graph, machine, code, inputs, constants, outputs)


def error(*args, **more):
    return error_of(lambda: told(*args, **more))


class Right(unittest.TestCase):
    def test_several_forms(self):
        for code in (MAC, VECTOR, PLAIN):
            self.assertIs(told(code), True)

    def test_other_places(self):
        code = fetch(10, 0, 3) + fetch(5, 3, 3) + (("set", 1, 3), ("mac", 3, 0, 1, 1, 1, 3), ("store", 0, 8, 3), ("out", 0, 0, 0, 0, 8, 1))
        self.assertIs(told(code, inputs=(10,), constants=((5, 2), (6, -1), (7, 3)), outputs=(0, 10)), True)

    def test_constants_that_the_code_has_itself(self):
        """The constants are those that are handed in; the graph's own are numbers of its terms."""
        self.assertIs(told(PLAIN, constants=()), True)
        self.assertIs(told(MAC, constants=()), False)
        self.assertIs(told(MAC, constants=((3, 2), (4, -1), (5, 4))), False)
        self.assertIs(told(MAC, constants=CONSTANTS[::-1]), True)

    def test_outputs_may_share_words(self):
        graph = graph_of([tensor("k3"), const("k3", 2, -1, 3), ("dot", (0, 1), ("k",))], 2, 2, 0, 0)
        self.assertIs(told(MAC, graph=graph, outputs=(6, 6, 0, 0)), True)

    def test_code_of_images(self):
        for seed in range(40):
            graph = random_graph(seed, 10, most=27)
            image = build(graph, plain(graph), (256, 4096, 20, 1, 1))
            places = (image.inputs, image.constants, image.outputs)
            self.assertIs(certify(graph, image.machine, image.code, *places), True)

    def test_other_graphs_of_the_same_terms(self):
        graph = graph_of([tensor("k3"), const("k3", 2, -1, 3), ("mul", (1, 0), ()), ("sum", (2,), ("k",))], 3, 0)
        self.assertIs(told(MAC, graph=graph), True)

    def test_no_code(self):
        graph = graph_of([tensor("k3")], 0)
        self.assertIs(told((), graph=graph, constants=(), outputs=(0,)), True)
        self.assertIs(told((), graph=graph, constants=(), outputs=(1,)), False)


class Wrong(unittest.TestCase):
    def test_an_instruction_is_missing(self):
        for code in (MAC, PLAIN):
            for at in range(len(code)):
                self.assertIs(told(code[:at] + code[at + 1:]), False, code[at])

    def test_one_thing_wrong(self):
        for code, at, instruction in (
                (MAC, 0, ("in", 0, 0, 1, 0, 0, 6)), (MAC, 0, ("in", 0, 0, 0, 0, 1, 6)), (MAC, 0, ("in", 0, 0, 0, 0, 0, 5)),
                (MAC, 0, ("in", 1, 0, 0, 0, 0, 6)), (MAC, 1, ("wait", 1)), (MAC, 2, ("set", 1, 2)), (MAC, 2, ("set", 2, 3)),
                (MAC, 3, ("mac", 3, 0, 1, 1, 1, 2)), (MAC, 3, ("mac", 3, 0, 1, 1, 1, 4)), (MAC, 3, ("mac", 3, 0, 0, 1, 1, 3)),
                (MAC, 3, ("mac", 3, 0, 1, 1, -1, 3)), (MAC, 3, ("mac", 1, 0, 1, 1, 1, 3)), (MAC, 3, ("mac", 3, 0, 1, 0, 1, 3)),
                (MAC, 4, ("store", 0, 9, 3)), (MAC, 4, ("store", 0, 8, 1)), (MAC, 5, ("out", 0, 0, 7, 0, 8, 1)),
                (MAC, 5, ("out", 0, 0, 6, 0, 7, 1)), (MAC, 5, ("in", 0, 0, 6, 0, 8, 1)), (PLAIN, 2, ("load", 1, 0, 1)),
                (PLAIN, 5, ("do", "sub", 3, (1, 1), ())), (PLAIN, 6, ("do", "sub", 3, (2, 3), ())), (PLAIN, 7, ("set", 5, 4)),
                (PLAIN, 8, ("do", "mul", 5, (4, 4), ())), (PLAIN, 9, ("do", "max", 3, (5, 3), ())),
                (VECTOR, 6, ("vector", "add", 2, 0, 1, 3)), (VECTOR, 7, ("loop", 1, 2, -1, 2)), (VECTOR, 7, ("loop", 1, 1, -1, 3))):
            self.assertIsNone(error(code[:at] + (instruction,) + code[at + 1:]))
            self.assertIs(told(code[:at] + (instruction,) + code[at + 1:]), False, instruction)

    def test_errors_of_the_audit(self):
        for code in (
                (("skip", 1, 0),) + MAC[:-1], fetch(14, 0, 3), (("load", 1, 0, 0),), (("in", 0, 0, 0, 0, 0, 3), ("load", 1, 0, 0)),
                fetch(0, 0, 1) + (("load", 1, 0, 0), ("skip", 1, 0)),
                fetch(0, 0, 1) + (("set", 2, 1 << 30), ("load", 1, 0, 0), ("do", "mul", 1, (1, 2), ()))):
            self.assertIs(told(code), False)

    def test_outputs(self):
        self.assertIs(told(MAC, outputs=(7, 0)), False)
        self.assertIs(told(MAC, outputs=(6, 1)), False)
        self.assertIs(told(MAC + (("set", 1, 5), ("store", 0, 0, 1), ("out", 1, 0, 1, 0, 0, 1))), False)

    def test_intervals_count(self):
        """A clamp that does nothing for the input may be left out; one that does something may not."""
        wide = graph_of([tensor("k3"), const("k3", 2, -1, 3), ("clamp", (0,), (-9, 9)), ("dot", (2, 1), ("k",))], 3, 0)
        narrow = graph_of([tensor("k3"), const("k3", 2, -1, 3), ("clamp", (0,), (-9, 8)), ("dot", (2, 1), ("k",))], 3, 0)
        self.assertIs(told(MAC, graph=wide), True)
        self.assertIs(told(MAC, graph=narrow), False)


class Errors(unittest.TestCase):
    BAD = (("set", 0),)

    def test_graph_machine_and_code(self):
        self.assertIs(error(self.BAD, graph=((), ()), machine=(0,) * 5), FormError)
        self.assertIs(error(self.BAD, graph=graph_of([("no", (), ())]), machine=(0,) * 5), KindError)
        self.assertIs(error(self.BAD, machine=(0,) * 5), MachineError)
        self.assertIs(error(self.BAD, inputs=()), FormError)
        self.assertIs(error((("set", 32, 0),), inputs=()), RangeError)
        self.assertIs(error(nested(18), inputs=()), TooLarge)

    def test_numbers_of_addresses(self):
        for inputs, outputs in (((), (6, 0)), ((0, 3), (6, 0)), ((0,), (6,)), ((0,), ()), ((0,), (6, 0, 0))):
            self.assertIs(error(MAC, inputs=inputs, outputs=outputs), PlaceError)

    def test_words_outside(self):
        for inputs, expected in (((13,), None), ((14,), PlaceError), ((-1,), PlaceError), ((99,), PlaceError)):
            self.assertIs(error(MAC, inputs=inputs), expected)
        for outputs, expected in (((15, 13), None), ((16, 0), PlaceError), ((-1, 0), PlaceError), ((6, 14), PlaceError), ((6, -1), PlaceError)):
            self.assertIs(error(MAC, outputs=outputs), expected)
        for address, expected in ((15, None), (16, PlaceError), (-1, PlaceError)):
            self.assertIs(error(MAC, constants=((address, 1),)), expected)

    def test_the_same_address(self):
        for constants in (((2, 1),), ((0, 1),), ((3, 1), (3, 1)), CONSTANTS + ((1, 7),)):
            self.assertIs(error(MAC, constants=constants), PlaceError)
        graph = graph_of([tensor("k3"), scalar(0, 9), ("sum", (0,), ("k",))], 2)
        for address, expected in ((2, PlaceError), (3, None), (0, PlaceError)):
            self.assertIs(error(MAC, graph=graph, inputs=(0, address), constants=(), outputs=(6,)), expected)

    def test_too_wide(self):
        top = (1 << 31) - 1
        for low, high, expected in ((-top - 1, top, None), (0, top + 1, TooWide), (-top - 2, 0, TooWide)):
            graph = graph_of([scalar(low, high)])
            self.assertIs(error((), graph=graph, constants=(), outputs=(0,)), expected)
        for word, expected in ((top, None), (-top - 1, None), (top + 1, TooWide), (-top - 2, TooWide)):
            self.assertIs(error(MAC, constants=((9, word),)), expected)
        self.assertIs(error(MAC, constants=((0, top + 1),)), PlaceError)

    def test_results_that_are_too_wide_are_not_certified(self):
        graph = graph_of([scalar(0, 1 << 30), ("add", (0, 0), ())])
        code = fetch(0, 0, 1) + (("load", 1, 0, 0), ("do", "add", 1, (1, 1), ()), ("store", 0, 0, 1), ("out", 0, 0, 1, 0, 0, 1))
        self.assertIs(told(code, graph=graph, constants=(), outputs=(1,)), False)
        self.assertIs(told(code, graph=graph, constants=(), outputs=(1,), machine=(33,) + MACHINE[1:]), True)
