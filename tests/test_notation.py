"""Points 206 and 207: the text of a graph and its reading."""

import unittest

from tensorworks.errors import (
    AxisError, FormError, KindError, RangeError, RankError, TextError, TooLarge, TooWide,
)
from tensorworks.kinds import KINDS
from tensorworks.notation import read_graph, write_graph
from tests.helpers import WIDE, const, error_of, graph_of, random_graph, scalar, tensor

EXAMPLE = "input i3k4 -5 9\nconst k4 1 2 3 -4\ndot 0 1 k\nout 2\n"

# A node of each kind, and its line; 0 is i2k3, 1 is k3j4 and 2 is i2.
START = (tensor("i2k3"), tensor("k3j4"), tensor("i2"))
HEAD = "input i2k3 -9 9\ninput k3j4 -9 9\ninput i2 -9 9\n"
LINES = (
    (tensor("a1z9", -12, 0), "input a1z9 -12 0"),
    (const("", 5), "const . 5"),
    (("add", (0, 1), ()), "add 0 1"),
    (("sub", (1, 0), ()), "sub 1 0"),
    (("mul", (0, 0), ()), "mul 0 0"),
    (("max", (0, 1), ()), "max 0 1"),
    (("min", (0, 1), ()), "min 0 1"),
    (("less", (0, 1), ()), "less 0 1"),
    (("equal", (0, 1), ()), "equal 0 1"),
    (("neg", (2,), ()), "neg 2"),
    (("clamp", (0,), (-5, 17)), "clamp 0 -5 17"),
    (("shift", (0,), (30,)), "shift 0 30"),
    (("where", (2, 0, 1), ()), "where 2 0 1"),
    (("sum", (0,), ("k",)), "sum 0 k"),
    (("peak", (0,), ("i",)), "peak 0 i"),
    (("dot", (0, 1), ("k",)), "dot 0 1 k"),
    (("order", (0,), ("ki",)), "order 0 ki"),
    (("rename", (0,), ("i", "z")), "rename 0 i z"),
    (("spread", (0,), ("z", 16)), "spread 0 z 16"),
    (("cut", (0,), ("k", 1, 2)), "cut 0 k 1 2"),
    (("pad", (0,), ("k", 0, 3)), "pad 0 k 0 3"),
    (("join", (0, 0), ("k",)), "join 0 0 k"),
    (("window", (0,), ("k", "w", 2, 1)), "window 0 k w 2 1"),
    (("fold", (0,), ("i", "k", 2, 7)), "fold 0 i k 2 7"),
    (("gather", (1, 2), ("k",)), "gather 1 2 k"),
)


class Writing(unittest.TestCase):
    def test_example(self):
        graph = read_graph(EXAMPLE)
        self.assertEqual(graph, (
            (("input", (), ((("i", 3), ("k", 4)), -5, 9)), ("const", (), ((("k", 4),), (1, 2, 3, -4))),
             ("dot", (0, 1), ("k",))), (2,)))
        self.assertEqual(write_graph(graph), EXAMPLE)

    def test_example_of_the_interface(self):
        graph = ((("const", (), ((), (5,))), ("neg", (0,), ())), (1,))
        self.assertEqual(read_graph("const . 5\nneg 0\nout 1\n"), graph)

    def test_each_kind(self):
        self.assertEqual([node[0] for node, _ in LINES], list(KINDS))
        for node, line in LINES:
            graph = graph_of(START + (node,), 3, 0, 3)
            self.assertEqual(write_graph(graph), HEAD + line + "\nout 3 0 3\n")
            self.assertEqual(read_graph(HEAD + line + "\nout 3 0 3\n"), graph)

    def test_empty_words(self):
        graph = graph_of([scalar(-WIDE, WIDE), ("order", (0,), ("",))])
        text = f"input . -{WIDE} {WIDE}\norder 0 .\nout 1\n"
        self.assertEqual(write_graph(graph), text)
        self.assertEqual(read_graph(text), graph)

    def test_errors_of_the_graph(self):
        self.assertIs(error_of(write_graph, ((), ())), FormError)
        self.assertIs(error_of(write_graph, graph_of([("nothing", (), ())])), KindError)

    def test_both_ways(self):
        for seed in range(40):
            graph = random_graph(seed, 12)
            self.assertEqual(read_graph(write_graph(graph)), graph)


class Reading(unittest.TestCase):
    def fails(self, error, text):
        self.assertIs(error_of(read_graph, text), error, text)

    def test_text_as_a_whole(self):
        for text in (
            "", "\n", "out", "out 0", "out 0\n\n", "\nout 0\n", "const . 5\n", "const . 5\nout 0", "out 0\nconst . 5\n",
            "const . 5\n\nout 0\n", "const . 5\r\nout 0\n", "const . 5\nout 0\n ", "const . 5\nOut 0\n",
            "const . 5\nout 0\nout 0\n", "const . 5\nnothing 0\nout 0\n", "const . 5\nout. 0\n",
            "const . 5\nout 00", "const . 5\nout 0x", "const . 5\nout 0 ", "const . 5\nout 0\n\n",
        ):
            self.fails(TextError, text)

    def test_words(self):
        for line in (
            "neg", "neg  0", "neg 0 ", " neg 0", "neg 0 0", "neg\t0", "neg 0\x0bneg 0", "add 0", "add 0 1 2", "neg x",
            "neg 00", "neg -0", "neg +0", "neg 0x0", "neg 1_0", "neg \u0660", "neg --1", "neg -", "neg 1.0", "Neg 0",
            "clamp 0 1", "clamp 0 1 2 3", "sum 0", "sum 0 K", "sum 0 ki", "sum 0 .", "sum 0 1", "sum 0 \u00e9",
            "order 0", "order 0 iK", "order 0 i1", "order 0 ..", "order 0 i.", "rename 0 i", "rename 0 i jk",
            "input . 0", "input . 0 1 2", "input 0 1", "input i 0 1", "input i02 0 1", "input i-2 0 1", "input 2i 0 1",
            "input I2 0 1", "input i2k 0 1", "input i2. 0 1", "input .. 0 1", "input i2 k3 0 1", "input i+2 0 1",
            "input i\u0662 0 1", "const", "const x 1", "const 5", "const . x", "const . 5 ", "const . -0", "const i2,3 1",
        ):
            self.fails(TextError, "const . 5\n" + line + "\nout 0\n")

    def test_outs(self):
        for line in ("out 0 ", "out  0", "out x", "out 00", "out -0", " out 0", "out\t0"):
            self.fails(TextError, "const . 5\n" + line + "\n")

    def test_errors_behind(self):
        self.fails(FormError, "out\n")
        self.fails(FormError, "const . 5\nout\n")
        self.fails(FormError, "const . 5\nout 1\n")
        self.fails(FormError, "const . 5\nout -1\n")
        self.fails(FormError, "const . 5\nneg -1\nout 0\n")
        self.fails(FormError, "const . 5\nneg 7\nout 0\n")
        self.fails(FormError, "const .\nout 0\n")
        self.fails(FormError, "const i2 1\nout 0\n")
        self.fails(FormError, "const . 1 2\nout 0\n")
        self.fails(RangeError, "const i0\nout 0\n")
        self.fails(RangeError, "input i0 0 1\nout 0\n")
        self.fails(RangeError, "input . 1 0\nout 0\n")
        self.fails(AxisError, "input i2i2 0 1\nout 0\n")
        self.fails(RankError, "input a1b1c1d1e1 0 1\nout 0\n")
        self.fails(AxisError, "const . 5\norder 0 zz\nout 0\n")
        self.fails(TooLarge, "const . 5\n" * 401 + "out 0\n")
        self.fails(None, "const . 5\n" * 400 + "out 0\n")

    def test_text_before_graph(self):
        self.fails(TextError, "const . 1 2\nneg x\nout 0\n")
        self.fails(TextError, "const . 5\n" * 401 + "out x\n")

    def test_digits(self):
        nines = "9" * 70
        self.fails(TooWide, f"const . {nines}\nout 0\n")
        self.fails(TooWide, f"const . -{nines}\nout 0\n")
        self.fails(TextError, f"const . 1{nines}\nout 0\n")
        self.fails(TextError, f"const . -1{nines}\nout 0\n")
        self.fails(FormError, f"const . 5\nneg {nines}\nout 0\n")
        self.fails(TextError, f"const . 5\nneg 1{nines}\nout 0\n")
        self.fails(FormError, f"const . 5\nout -{nines}\n")
        self.fails(TextError, f"const . 5\nout 1{nines}\n")
        self.fails(RangeError, f"input i{nines} 0 1\nout 0\n")
        self.fails(TextError, f"input i1{nines} 0 1\nout 0\n")
        self.fails(RangeError, f"const . 5\nshift 0 {nines}\nout 0\n")
        self.fails(TextError, f"const . 5\nshift 0 {'1' * 71}\nout 0\n")
