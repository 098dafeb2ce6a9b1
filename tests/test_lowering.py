"""Points 607 and 608: graphs turned into loop programs."""

import unittest

from tensorworks.errors import FormError, KeptError, KindError, RangeError, TooLarge
from tensorworks.graphs import check_graph
from tensorworks.kinds import KINDS
from tensorworks.loops import check_program
from tensorworks.lowering import lower
from tensorworks.meaning import evaluate_all
from tensorworks.running import run_program
from tests.helpers import const, error_of, graph_of, random_feeds, random_graph, scalar, tensor
from tests.programs import ZERO, apply, form, guard, load, loop, num, pick, put, var

NO_NODES = ((), ())
# How many levels each kind stands above its args, and its fields where the first arg is i2k3.
ABOVE = {
    "sum": (1, ("k",)), "dot": (2, ("k",)), "peak": (1, ("k",)), "fold": (1, ("i", "k", 1, 4)),
    "pad": (2, ("k", 1, 1)), "join": (1, ("k",)), "window": (0, ("k", "w", 2, 1)), "cut": (0, ("k", 0, 1)),
    "order": (0, ("ki",)), "rename": (0, ("k", "r")), "spread": (0, ("r", 2)), "add": (1, ()),
}


def computed(graph):
    return tuple(at for at, node in enumerate(graph[0]) if node[0] not in ("input", "const"))


def needed(graph):
    """Return the nodes that have to be kept."""
    nodes, outs = graph
    firsts = {node[1][0] for node in nodes if node[0] == "gather"}
    reducing = {at for at, node in enumerate(nodes) if node[0] in ("sum", "peak", "dot", "fold")}
    return tuple(at for at in computed(graph) if at in firsts | reducing | set(outs))


# Ways to name the loops of nests.
def nest1(size, *body):
    return loop(0, 0, 1, size, *body)


def nest2(one, two, *body):
    return loop(0, 0, 1, one, loop(1, 0, 1, two, *body))


TWO = form(0, (0, 3), (1, 1))
X, Z, S = tensor("i2k3"), tensor("k3"), scalar(-9, 9)


# The nodes, of which the last one alone is kept, and the statements for it. X has the buffer 0, what
# stands behind it the buffers 1 and so on, and the last node the last one.
CASES = {
    "add": ([X, Z, ("add", (0, 1), ())], [nest2(2, 3, put(2, TWO, apply("add", load(0, TWO), load(1, var(1)))))]),
    "sub": ([Z, X, ("sub", (0, 1), ())], [nest2(3, 2, put(2, form(0, (0, 2), (1, 1)), apply(
        "sub", load(0, var(0)), load(1, form(0, (0, 1), (1, 3))))))]),
    "mul": ([Z, S, ("mul", (0, 1), ())], [nest1(3, put(2, var(0), apply("mul", load(0, var(0)), load(1))))]),
    "max": ([S, S, ("max", (0, 1), ())], [put(2, ZERO, apply("max", load(0), load(1)))]),
    "min": ([S, ("min", (0, 0), ())], [put(1, ZERO, apply("min", load(0), load(0)))]),
    "less": ([S, Z, ("less", (0, 1), ())], [nest1(3, put(2, var(0), apply("less", load(0), load(1, var(0)))))]),
    "equal": ([Z, Z, ("equal", (0, 1), ())], [nest1(3, put(2, var(0), apply("equal", load(0, var(0)), load(1, var(0)))))]),
    "neg": ([X, ("neg", (0,), ())], [nest2(2, 3, put(1, TWO, apply("neg", load(0, TWO))))]),
    "clamp": ([Z, ("clamp", (0,), (-2, 3))], [nest1(3, put(1, var(0), apply("clamp", load(0, var(0)), info=(-2, 3))))]),
    "shift": ([Z, ("shift", (0,), (2,))], [nest1(3, put(1, var(0), apply("shift", load(0, var(0)), info=(2,))))]),
    "where": ([S, Z, X, ("where", (0, 1, 2), ())], [nest2(3, 2, put(3, form(0, (0, 2), (1, 1)), apply(
        "where", load(0), load(1, var(0)), load(2, form(0, (0, 1), (1, 3))))))]),
    "sum": ([X, ("sum", (0,), ("i",))], [nest1(3, put(1, var(0), num(0)), loop(1, 0, 1, 2, put(1, var(0), apply(
        "add", load(1, var(0)), load(0, form(0, (0, 1), (1, 3)))))))]),
    "peak": ([X, ("peak", (0,), ("k",))], [nest1(2, put(1, var(0), load(0, var(0, 3))), loop(1, 1, 1, 2, put(
        1, var(0), apply("max", load(1, var(0)), load(0, form(0, (0, 3), (1, 1)))))))]),
    "dot": ([X, Z, ("dot", (0, 1), ("k",))], [nest1(2, put(2, var(0), num(0)), loop(1, 0, 1, 3, put(2, var(0), apply(
        "add", load(2, var(0)), apply("mul", load(0, TWO), load(1, var(1)))))))]),
    "order": ([X, ("order", (0,), ("ki",))], [nest2(3, 2, put(1, form(0, (0, 2), (1, 1)), load(0, form(0, (0, 1), (1, 3)))))]),
    "rename": ([X, ("rename", (0,), ("i", "q"))], [nest2(2, 3, put(1, TWO, load(0, TWO)))]),
    "spread": ([Z, ("spread", (0,), ("q", 2))], [nest2(3, 2, put(1, form(0, (0, 2), (1, 1)), load(0, var(0))))]),
    "cut": ([X, ("cut", (0,), ("k", 1, 2))], [nest2(2, 2, put(1, form(0, (0, 2), (1, 1)), load(0, form(1, (0, 3), (1, 1)))))]),
    "pad": ([Z, ("pad", (0,), ("k", 2, 1))], [nest1(6, put(1, var(0), guard(
        form(-2, (0, 1)), guard(form(4, (0, -1)), load(0, form(-2, (0, 1))), num(0)), num(0))))]),
    "join": ([Z, tensor("k2"), ("join", (0, 1), ("k",))], [nest1(5, put(2, var(0), guard(
        form(2, (0, -1)), load(0, var(0)), load(1, form(-3, (0, 1))))))]),
    "window": ([tensor("k7"), ("window", (0,), ("k", "w", 3, 2))], [nest2(3, 3, put(1, TWO, load(0, form(0, (0, 2), (1, 1)))))]),
    "fold": ([tensor("i2k3"), ("fold", (0,), ("i", "k", 2, 6))], [nest1(6, put(1, var(0), num(0))), nest2(2, 3, put(
        1, form(0, (0, 2), (1, 1)), apply("add", load(1, form(0, (0, 2), (1, 1))), load(0, TWO))))]),
    "gather": ([X, tensor("m4"), ("gather", (0, 1), ("i",))], [nest2(4, 3, put(2, TWO, pick(
        0, var(1), 3, 2, load(1, var(0)))))]),
}


class Kinds(unittest.TestCase):
    def test_each_kind(self):
        self.assertEqual(set(CASES) | {"input", "const"}, set(KINDS))
        for kind, (nodes, body) in CASES.items():
            graph = graph_of(nodes)
            last = len(nodes) - 1
            program, places = lower(graph, (last,))
            self.assertEqual(program[1], tuple(body), kind)
            self.assertEqual(places, tuple(range(len(nodes))))
            sizes = [count(shape) for shape, _, _ in check_graph(graph)]
            self.assertEqual(program[0], tuple(("in", size) for size in sizes[:-1]) + (("main", sizes[-1]),))

    def test_input_and_const(self):
        graph = graph_of([const("k2", 4, 5), tensor("i2k3"), const("", 7)], 0, 1)
        self.assertEqual(lower(graph, ()), (((("in", 2), ("in", 6), ("in", 1)), ()), (0, 1, 2)))

    def test_peak_of_one(self):
        program, _ = lower(graph_of([tensor("i2k1"), ("peak", (0,), ("k",))]), (1,))
        self.assertEqual(program[1], (nest1(2, put(1, var(0), load(0, var(0)))),))
        program, _ = lower(graph_of([tensor("k1"), ("sum", (0,), ("k",))]), (1,))
        self.assertEqual(len(program[1]), 2)

    def test_more_of_join_and_gather(self):
        nodes = [tensor("k2i3"), tensor("k2i1"), ("join", (0, 1), ("i",))]
        body = lower(graph_of(nodes), (2,))[0][1]
        where = form(0, (0, 3), (1, 1))
        self.assertEqual(body, (nest2(2, 4, put(2, form(0, (0, 4), (1, 1)), guard(
            form(2, (1, -1)), load(0, where), load(1, form(-3, (0, 1), (1, 1)))))),))
        nodes = [tensor("k4"), S, ("gather", (0, 1), ("k",))]
        self.assertEqual(lower(graph_of(nodes), (2,))[0][1], (put(2, ZERO, pick(0, ZERO, 1, 4, load(1))),))

    def test_nodes_that_are_not_kept(self):
        """Their expressions stand wherever they are used, with the forms of their letters carried through."""
        nodes = [tensor("k7"), ("window", (0,), ("k", "w", 3, 2)), ("rename", (1,), ("k", "r")), ("neg", (2,), ()),
                 ("cut", (3,), ("r", 1, 2)), ("order", (4,), ("wr",)), ("spread", (5,), ("z", 2)), ("sum", (6,), ("w",))]
        program, places = lower(graph_of(nodes), (7,))
        inner = apply("neg", load(0, form(2, (0, 2), (2, 1))))
        where = form(0, (0, 2), (1, 1))
        self.assertEqual(program[1], (nest2(2, 2, put(1, where, num(0)), loop(2, 0, 1, 3, put(
            1, where, apply("add", load(1, where), inner)))),))
        self.assertEqual(places, (0,) + (None,) * 6 + (1,))

    def test_unused_nodes_that_are_not_kept(self):
        program, places = lower(graph_of([S, ("neg", (0,), ()), ("add", (1, 1), ())], 0), ())
        self.assertEqual((program, places), (((("in", 1),), ()), (0, None, None)))

    def test_pad_in_a_dot(self):
        nodes = [Z, tensor("k5"), ("pad", (0,), ("k", 1, 1)), ("dot", (2, 1), ("k",))]
        body = lower(graph_of(nodes), (3,))[0][1]
        padded = guard(form(-1, (0, 1)), guard(form(3, (0, -1)), load(0, form(-1, (0, 1))), num(0)), num(0))
        self.assertEqual(body, (put(2, ZERO, num(0)), nest1(5, put(2, ZERO, apply(
            "add", load(2), apply("mul", padded, load(1, var(0))))))))

    def test_forms_are_normal(self):
        """A window over an axis of size 1 leaves out nothing but terms that cancel."""
        nodes = [tensor("k3"), ("pad", (0,), ("k", 1, 0)), ("cut", (1,), ("k", 1, 3))]
        body = lower(graph_of(nodes), (2,))[0][1]
        self.assertEqual(body, (nest1(3, put(1, var(0), guard(
            var(0), guard(form(2, (0, -1)), load(0, var(0)), num(0)), num(0)))),))


def count(shape):
    product = 1
    for _, size in shape:
        product *= size
    return product


class Values(unittest.TestCase):
    def compare(self, graph, kept, turns=2):
        program, places = lower(graph, kept)
        self.assertIsNone(error_of(check_program, program))
        for turn in range(turns):
            feeds = random_feeds(graph, turn)
            expected = evaluate_all(graph, feeds)
            given = tuple(row for row, node in zip(expected, graph[0]) if node[0] in ("input", "const"))
            words = run_program(program, given)
            for at, place in enumerate(places):
                if place is not None:
                    self.assertEqual(words[place], expected[at])

    def test_random_graphs(self):
        met, large = set(), 0
        for seed in range(150):
            graph = random_graph(seed, 12, most=36)
            met.update(node[0] for node in graph[0])
            self.compare(graph, computed(graph))
            if error_of(lower, graph, needed(graph)) is TooLarge:
                large += 1
                continue
            self.compare(graph, needed(graph))
        self.assertEqual(met, set(KINDS))
        self.assertLess(large, 10)

    def test_largest_shapes(self):
        nodes = [tensor("i4", -9, 9), ("input", (), ((("a", 16), ("b", 16)), -9, 9)), ("sum", (1,), ("a",)),
                 ("window", (2,), ("b", "c", 16, 16)), ("spread", (3,), ("d", 16)), ("neg", (4,), ())]
        graph = graph_of(nodes)
        self.compare(graph, computed(graph), 1)
        self.compare(graph, (2, 5), 1)

    def test_long_rows_of_nodes(self):
        nodes = [tensor("i2k3")] + [("order", (at,), ("ki" if at % 2 == 0 else "ik",)) for at in range(398)]
        graph = graph_of(nodes)
        program, _ = lower(graph, (398,))
        self.assertEqual(program[1], (nest2(2, 3, put(1, TWO, load(0, TWO))),))
        self.compare(graph, computed(graph), 1)


class Errors(unittest.TestCase):
    def test_of_the_graph_first(self):
        self.assertIs(error_of(lower, NO_NODES, (5,)), FormError)
        self.assertIs(error_of(lower, graph_of([("no", (), ())]), (5,)), KindError)

    def test_kept_nodes(self):
        nodes = [X, tensor("m4"), ("neg", (0,), ()), ("sum", (2,), ("k",)), ("gather", (2, 1), ("i",)), ("neg", (4,), ()),
                 ("gather", (0, 1), ("i",)), ("less", (6, 6), ()), const("", 3)]
        graph = graph_of(nodes, 5)
        for kept in ((2, 3, 5), (2, 3, 4, 5), (2, 3, 4, 5, 6, 7), (2, 3, 5, 6)):
            self.assertIsNone(error_of(lower, graph, kept))
        for kept in (
                (), (3, 5), (2, 5), (2, 3), (2, 3, 4), (3, 2, 5), (2, 2, 3, 5), (2, 3, 5, 5), (0, 2, 3, 5), (2, 3, 5, 8),
                (2, 3, 5, 9), (-1, 2, 3, 5), (-2, 2, 3, 5), (-7, 2, 3, 5), (2, 3, 5, 400), (1,)):
            self.assertIs(error_of(lower, graph, kept), KeptError, kept)

    def test_negative_nodes(self):
        graph = graph_of([X, ("neg", (0,), ()), ("neg", (1,), ())])
        for kept in ((-1, 2), (-2, 2), (-1, 1, 2), (-1,)):
            self.assertIs(error_of(lower, graph, kept), KeptError)

    def test_each_reducing_kind_and_outputs(self):
        for node in (("sum", (0,), ("k",)), ("peak", (0,), ("k",)), ("dot", (0, 0), ("k",)), ("fold", (0,), ("i", "k", 1, 4))):
            graph = graph_of([X, node, ("neg", (0,), ())], 0)
            self.assertIs(error_of(lower, graph, (2,)), KeptError)
            self.assertIsNone(error_of(lower, graph, (1,)))
            self.assertIsNone(error_of(lower, graph, (1, 2)))
        graph = graph_of([X, ("neg", (0,), ()), ("neg", (1,), ())], 1, 2, 0, 1)
        for kept in ((), (1,), (2,)):
            self.assertIs(error_of(lower, graph, kept), KeptError)
        self.assertIsNone(error_of(lower, graph, (1, 2)))

    def row(self, many, kind="neg"):
        return graph_of([Z] + [(kind, (at,) if kind == "neg" else (at, at), ()) for at in range(many)])

    def test_levels(self):
        self.assertIsNone(error_of(lower, self.row(9), (9,)))
        self.assertIs(error_of(lower, self.row(10), (10,)), TooLarge)
        self.assertIsNone(error_of(lower, self.row(10), (5, 10)))
        self.assertIs(error_of(lower, self.row(399), (399,)), TooLarge)
        self.assertIs(error_of(lower, self.row(30, "add"), (30,)), TooLarge)

    def test_levels_of_the_other_kinds(self):
        """How many levels each kind stands above its args: one less than 10 of neg can stand below it."""
        for kind, (levels, info) in ABOVE.items():
            for many, expected in ((9 - levels, None), (10 - levels, TooLarge)):
                nodes = [X] + [("neg", (at,), ()) for at in range(many)]
                args = (many, many) if kind in ("dot", "join", "add") else (many,)
                graph = graph_of(nodes + [(kind, args, info)])
                self.assertIs(error_of(lower, graph, (many + 1,)), expected, (kind, many))
        for many, expected in ((8, None), (9, TooLarge)):
            nodes = [Z] + [("neg", (at,), ()) for at in range(many)] + [X]
            graph = graph_of(nodes + [("gather", (many + 1, many), ("i",))])
            self.assertIs(error_of(lower, graph_of([S if n == Z else n for n in graph[0]]), (many + 2,)), expected)
        for size, expected in (("i2k1", None), ("i2k2", TooLarge)):
            nodes = [tensor(size)] + [("neg", (at,), ()) for at in range(9)] + [("peak", (9,), ("k",))]
            self.assertIs(error_of(lower, graph_of(nodes), (10,)), expected)

    def test_of_the_program(self):
        """Nine levels of where are 29524 parts, three are 40."""
        nodes = [Z] + [("where", (at, at, at), ()) for at in range(9)]
        self.assertIs(error_of(lower, graph_of(nodes), (9,)), TooLarge)
        self.assertIsNone(error_of(lower, graph_of(nodes), (3, 6, 9)))

    def windows(self, many):
        """Return windows over padded axes, whose forms have factors that are products of strides."""
        nodes = [tensor("k1")]
        for new in "abc"[:many]:
            nodes.append(("pad", (len(nodes) - 1,), ("k", 15, 0)))
            nodes.append(("window", (len(nodes) - 1,), ("k", new, 1, 16)))
        return nodes + [("pad", (len(nodes) - 1,), ("k", 15, 0))]

    def test_ranges_of_the_program(self):
        self.assertIsNone(error_of(lower, graph_of(self.windows(2)), (5,)))
        self.assertIs(error_of(lower, graph_of(self.windows(3)), (7,)), RangeError)
        self.assertIsNone(error_of(lower, graph_of(self.windows(3)), (4, 7)))
        parts = [("where", (at, at, at), ()) for at in range(8, 16)] + [("where", (0, 0, 0), ())]
        nodes = self.windows(3) + parts[-1:] + parts[:-1]
        self.assertIs(error_of(lower, graph_of(nodes, 7, 16), (7, 16)), RangeError)
        self.assertIs(error_of(lower, graph_of(nodes, 7, 16), (4, 7, 16)), TooLarge)

    def test_levels_before_ranges(self):
        """The levels are asked for the whole result before its numbers are."""
        first = self.windows(3)
        for kind, (levels, info) in ABOVE.items():
            for many, expected in ((9 - levels, RangeError), (10 - levels, TooLarge)):
                nodes = first + [X] + [("neg", (8 + at,), ()) for at in range(many)]
                last = len(nodes) - 1
                args = (last, last) if kind in ("dot", "join", "add") else (last,)
                graph = graph_of(nodes + [(kind, args, info)], 7, last + 1)
                self.assertIs(error_of(lower, graph, (7, last + 1)), expected, (kind, many))
        for many, expected in ((8, RangeError), (9, TooLarge)):
            nodes = first + [X, S] + [("neg", (9 + at,), ()) for at in range(many)]
            graph = graph_of(nodes + [("gather", (8, len(nodes) - 1), ("i",))], 7, len(nodes))
            self.assertIs(error_of(lower, graph, (7, len(nodes))), expected)
        for size, expected in (("i2k1", RangeError), ("i2k2", TooLarge)):
            nodes = first + [tensor(size)] + [("neg", (8 + at,), ()) for at in range(9)]
            graph = graph_of(nodes + [("peak", (17,), ("k",))], 7, 18)
            self.assertIs(error_of(lower, graph, (7, 18)), expected)
        for kind in ("join", "dot"):
            for turned in (False, True):
                nodes = first + [X] + [("neg", (8 + at,), ()) for at in range(8)]
                args = (16, 8) if turned else (8, 16)
                graph = graph_of(nodes + [(kind, args, ("k",))], 7, 17)
                self.assertIs(error_of(lower, graph, (7, 17)), TooLarge if kind == "dot" else RangeError)
                graph = graph_of(nodes + [("neg", (16,), ()), (kind, tuple(17 if a == 16 else a for a in args), ("k",))], 7, 18)
                self.assertIs(error_of(lower, graph, (7, 18)), TooLarge)

    def test_examples(self):
        nodes = (("input", (), ((("k", 3),), -9, 9)), ("neg", (0,), ()), ("sum", (1,), ("k",)))
        body = (put(1, ZERO, num(0)), loop(0, 0, 1, 3, put(1, ZERO, apply("add", load(1), apply("neg", load(0, var(0)))))))
        self.assertEqual(lower((nodes, (2,)), (2,)), (((("in", 3), ("main", 1)), body), (0, None, 1)))
