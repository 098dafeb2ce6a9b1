"""The examples of the interface."""

import doctest
import unittest

EXAMPLES = """
>>> from tensorworks.ratios import fraction
>>> fraction(6, -4)
(-3, 2)

>>> from tensorworks.shapes import broadcast
>>> broadcast((("i", 2), ("k", 3)), (("k", 3), ("j", 4)))
(('i', 2), ('k', 3), ('j', 4))

>>> from tensorworks.shapes import offset
>>> offset((("i", 2), ("k", 3)), (1, 0))
3

>>> from tensorworks.kinds import pointwise
>>> pointwise("shift", (-3,), (1,))
-1

>>> from tensorworks.graphs import check_graph
>>> check_graph(((("input", (), ((("i", 2),), -3, 4)), ("mul", (0, 0), ())), (1,)))
(((('i', 2),), -3, 4), ((('i', 2),), -12, 16))

>>> from tensorworks.notation import read_graph
>>> read_graph("const . 5\\nneg 0\\nout 1\\n")
((('const', (), ((), (5,))), ('neg', (0,), ())), (1,))

>>> from tensorworks.meaning import evaluate
>>> nodes = (("input", (), ((("k", 3),), -9, 9)), ("sum", (0,), ("k",)))
>>> evaluate((nodes, (1, 0)), ((1, 2, -4),))
((-1,), (1, 2, -4))

>>> from tensorworks.tangents import tangent_graph
>>> tangent_graph(((("input", (), ((), -3, 3)), ("mul", (0, 0), ())), (1,)), -1, 1)[0][3:]
(('mul', (1, 0), ()), ('mul', (0, 1), ()), ('add', (3, 4), ()))

>>> from tensorworks.gradients import gradient_graph
>>> gradient_graph(((("input", (), ((), -3, 3)), ("mul", (0, 0), ())), (1,)), 1, 1)
((('input', (), ((), -3, 3)), ('mul', (0, 0), ()), ('input', (), ((), 1, 1)), ('mul', (2, 0), ()), ('mul', (2, 0), ()), ('add', (3, 4), ())), (5,))

>>> from tensorworks.rules import apply_rule
>>> nodes = (("input", (), ((), -3, 3)), ("neg", (0,), ()), ("neg", (1,), ()), ("mul", (2, 2), ()))
>>> apply_rule((nodes, (3,)), "neg-neg", 2)
((('input', (), ((), -3, 3)), ('neg', (0,), ()), ('mul', (0, 0), ())), (2,))

>>> from tensorworks.terms import Terms
>>> table = Terms()
>>> x = table.variable((0,), -3, 3)
>>> y = table.variable((1,), 0, 9)
>>> table.make("sub", (table.make("add", (x, y), ()), x), ()) == y
True

>>> from tensorworks.terms import Terms
>>> table = Terms()
>>> x = table.variable((0,), -3, 3)
>>> table.span(table.make("mul", (x, table.number(-2)), ()))
(-6, 6)

>>> from tensorworks.lowering import lower
>>> nodes = (("input", (), ((("k", 3),), -9, 9)), ("neg", (0,), ()), ("sum", (1,), ("k",)))
>>> lower((nodes, (2,)), (2,))
(((('in', 3), ('main', 1)), (('put', 1, (0, ()), ('number', 0)), ('loop', 0, 0, 1, 3, (('put', 1, (0, ()), ('apply', 'add', (('load', 1, (0, ())), ('apply', 'neg', (('load', 0, (0, ((0, 1),))),), ())), ())),)))), (0, None, 1))

>>> from tensorworks.placing import choose_places
>>> choose_places(((0, 1), (2, 3)), (4, 2))
(0, 0)

>>> from tensorworks.device import run_code
>>> code = (("in", 0, 0, 0, 0, 5, 2), ("wait", 0), ("load", 1, 0, 6), ("do", "neg", 1, (1,), ()), ("store", 0, 6, 1), ("out", 0, 0, 2, 0, 6, 1))
>>> run_code((32, 4, 16, 1, 4), code, (7, 8, 0, 0), (0,) * 16, ())
(7, 8, -8, 0)

>>> from tensorworks.scales import choose_table
>>> choose_table(((("input", (), ((), -1, 3)),), (0,)), 4)
(((2, 7), -4),)

>>> from tensorworks.scales import multiplier
>>> multiplier((1, 3))
(43691, 17)

>>> from tensorworks.journal import journal_line
>>> journal_line(0, ((5, -2),))
'step 0 ; 5 -2 check 4602\\n'

>>> from tensorworks.lines import line_terms
>>> graph = ((("input", (), ((("i", 2),), -9, 9)), ("mul", (0, 0), ())), (1,))
>>> line_terms(graph, ((3, -2),), ((1, 0),))
(((9, 6, 1), (4,)),)

>>> from tensorworks.creases import creases, partials
>>> graph = ((("input", (), ((("i", 2),), -9, 9)), ("neg", (0,), ()), ("max", (0, 1), ())), (2,))
>>> (creases(graph, ((0, 4),), ((1, 1),)), partials(graph, ((0, 4),)))
(((0, 0),), ((((None, 0),), ((0, 1),)),))

>>> from tensorworks.pieces import programs_of
>>> graph = ((("input", (), ((), 0, 9)), ("neg", (0,), ()), ("add", (0, 1), ())), (2,))
>>> programs_of(graph, ((0, 1), (2,)), 2, (0, 1))
((('make', 0), ('send', 0, 1), ('make', 1), ('send', 1, 1), ('drop', 0), ('drop', 1)), (('take', 0, 0), ('take', 1, 0), ('make', 2), ('drop', 0), ('drop', 1)))

>>> from tensorworks.sessions import Session
>>> graph = ((("input", (), ((), 0, 9)), ("input", (), ((), 0, 9)), ("max", (0, 1), ()), ("neg", (2,), ())), (3,))
>>> session = Session(graph, ((4,), (7,)))
>>> (session.change(((0, (5,)),)), session.change(((1, (3,)),)), session.answers, session.journal)
(1, 2, ((-5,),), 'change ; 0 5\\nchange ; 1 3\\n')
"""


class Examples(unittest.TestCase):
    def test_examples(self):
        parts = [part for part in EXAMPLES.split("\n\n") if part.strip()]
        self.assertEqual(len(parts), 22)
        for part in parts:
            names = {}
            # The runner of doctest would leave a name among the builtins.
            for example in doctest.DocTestParser().get_examples(part + "\n"):
                if example.want:
                    self.assertEqual(repr(eval(example.source, names)) + "\n", example.want)
                else:
                    exec(example.source, names)
