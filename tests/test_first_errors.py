"""Points 3, 4 and 205: the errors of the graph come first, then those of the machine, whatever else is wrong."""

import unittest

from tensorworks.bounds import bound_of
from tensorworks.building import build
from tensorworks.certifying import certify
from tensorworks.courses import Course
from tensorworks.creases import creases, is_gradient, left_slopes, partials, right_slopes
from tensorworks.device import Device, run_code
from tensorworks.devices import check_pieces
from tensorworks.errors import (
    AxisError, FormError, KindError, MachineError, RangeError, RankError, TensorError, TooLarge, TooWide)
from tensorworks.going import is_right, run_programs
from tensorworks.gradients import gradient_graph
from tensorworks.graph_terms import graph_terms
from tensorworks.graphs import check_graph, inputs_of, work_of
from tensorworks.instructions import check_code
from tensorworks.lines import line_terms
from tensorworks.listing import read_code, write_code
from tensorworks.lowering import lower
from tensorworks.meaning import evaluate, evaluate_all
from tensorworks.notation import write_graph
from tensorworks.optimizing import cost_of, optimize
from tensorworks.pieces import peaks_of, programs_of, words_sent
from tensorworks.quantizing import decode_outputs, encode_feeds, quantize_graph
from tensorworks.rewriting import replay, sites
from tensorworks.rules import apply_rule
from tensorworks.scales import check_table, choose_table
from tensorworks.scheduling import default_schedule, tuned_schedule
from tensorworks.sessions import Session, reached_from
from tensorworks.splitting import fits, split
from tensorworks.steps import steps_feeds, steps_graph
from tensorworks.tangents import tangent_graph
from tensorworks.terms import Terms
from tensorworks.tidying import fold_constants, prune, share
from tensorworks.trainer import Trainer
from tensorworks.updating import step_graph
from tests.helpers import const, error_of, graph_of, scalar, tensor

WIDE = 1 << 200
BAD_GRAPHS = (
    (((("what", (), ()),), (0,)), KindError),
    (((), ()), FormError),
    (graph_of([scalar(0, 1)], 1), FormError),
    (graph_of([scalar(2, 1)]), RangeError),
    (graph_of([tensor("k2k2")]), AxisError),
    (graph_of([tensor("a1b1c1d1e1")]), RankError),
    (graph_of([scalar(0, WIDE), ("less", (0, 0), ()), ("add", (0, 0), ())]), TooWide),
    (((const("", 1),) * 401, (0,)), TooLarge),
    (graph_of([("input", (), ((("i", 16), ("k", 16)), 0, 1))] + [("neg", (0,), ())] * 196), TooLarge),
)
BAD_MACHINES = ((31, 9, 20, 1, 1), (64, 0, 20, 1, 1), (64, 9, 15, 1, 1), (64, 9, 20, 5, 1), (64, 9, 20, 1, 17))
BAD_CODE = (("what",),)


def trained(kind):
    return lambda graph, machine=(0,) * 5: kind(
        graph, (9, 9), rate=99, low=5, high=-5, schedule=((("no", 9),), (-1,), (), ()), machine=machine, weights=())


# For each function that takes a graph: a call of it in which everything else is wrong as well.
CALLS = {
    "check_graph": check_graph, "inputs_of": inputs_of, "work_of": work_of, "write_graph": write_graph, "cost_of": cost_of,
    "prune": prune, "fold_constants": fold_constants, "share": share, "default_schedule": default_schedule,
    "evaluate": lambda graph: evaluate(graph, ((),) * 9), "evaluate_all": lambda graph: evaluate_all(graph, ((),) * 9),
    "tangent_graph": lambda graph: tangent_graph(graph, 1, 0), "gradient_graph": lambda graph: gradient_graph(graph, 1, 0),
    "apply_rule": lambda graph: apply_rule(graph, "no", 999), "sites": lambda graph: sites(graph, "no"),
    "replay": lambda graph: replay(graph, (("no", 999),)), "replay nothing": lambda graph: replay(graph, ()),
    "optimize": lambda graph: optimize(graph, 51), "graph_terms": lambda graph: graph_terms(Terms(), graph),
    "lower": lambda graph: lower(graph, (999, 5)), "tuned_schedule": lambda graph: tuned_schedule(graph, (0,) * 5),
    "build": lambda graph: build(graph, ((("no", 9),), (-1,), (("no", ()),), (-1,)), (0,) * 5),
    "certify": lambda graph: certify(graph, (0,) * 5, BAD_CODE, (-1,), ((-1, 5),), (-1,)),
    "choose_table": lambda graph: choose_table(graph, 99), "check_table": lambda graph: check_table(graph, (), 99),
    "quantize_graph": lambda graph: quantize_graph(graph, (), 99), "bound_of": lambda graph: bound_of(graph, (), 99),
    "encode_feeds": lambda graph: encode_feeds(graph, (), 99, ((),) * 9),
    "decode_outputs": lambda graph: decode_outputs(graph, (), 99, ((),) * 9),
    "step_graph": lambda graph: step_graph(graph, (9, 9), 99, 5, -5),
    "steps_graph": lambda graph: steps_graph(graph, (9, 9), 99, 5, -5, 99),
    "steps_feeds": lambda graph: steps_feeds(graph, (0,), (), ((),)),
    "Trainer": trained(Trainer), "Course": trained(Course),
    "line_terms": lambda graph: line_terms(graph, ((),) * 9, ((),) * 9),
    "right_slopes": lambda graph: right_slopes(graph, ((),) * 9, ()), "left_slopes": lambda graph: left_slopes(graph, ((),) * 9, ()),
    "creases": lambda graph: creases(graph, ((),) * 9, ()), "partials": lambda graph: partials(graph, ((),) * 9),
    "is_gradient": lambda graph: is_gradient(graph, ((),) * 9, (), ((),) * 9),
    "check_pieces": lambda graph: check_pieces(graph, ()), "programs_of": lambda graph: programs_of(graph, (), 1, (5,)),
    "words_sent": lambda graph: words_sent(graph, (), 1, (5,)), "peaks_of": lambda graph: peaks_of(graph, (), 1, (5,)),
    "is_right": lambda graph: is_right(graph, ((), ()), ((),)),
    "run_programs": lambda graph: run_programs(graph, ((), ()), ((),), ((),) * 9, ()),
    "fits": lambda graph: fits(graph, (), ((), ()), (5,)), "split": lambda graph: split(graph, (), ((), ())),
    "Session": lambda graph: Session(graph, ((),) * 9), "reached_from": lambda graph: reached_from(graph, (9, 9)),
}

GOOD = graph_of([scalar(0, 9), ("neg", (0,), ())])
# For each function that takes a machine: a call of it in which everything else but the graph is wrong as well.
MACHINE_CALLS = {
    "check_code": lambda machine: check_code(machine, BAD_CODE), "write_code": lambda machine: write_code(machine, BAD_CODE),
    "read_code": lambda machine: read_code(machine, "what"), "run_code": lambda machine: run_code(machine, BAD_CODE, (), (), (-1,)),
    "Device": lambda machine: Device(machine, BAD_CODE, (), (), (-1,)),
    "build": lambda machine: build(GOOD, ((("no", 9),), (-1,), (("no", ()),), (-1,)), machine),
    "tuned_schedule": lambda machine: tuned_schedule(GOOD, machine),
    "certify": lambda machine: certify(GOOD, machine, BAD_CODE, (-1,), ((-1, 5),), (-1,)),
    "Trainer": lambda machine: Trainer(
        GOOD, (0,), rate=1, low=0, high=9, schedule=((("no", 9),), (-1,), (), ()), machine=machine, weights=()),
    "Course": lambda machine: Course(
        GOOD, (0,), rate=1, low=0, high=9, schedule=((("no", 9),), (-1,), (), ()), machine=machine, weights=()),
}


class First(unittest.TestCase):
    def test_graph(self):
        for name, call in CALLS.items():
            for graph, expected in BAD_GRAPHS:
                self.assertIs(error_of(call, graph), expected, name)

    def test_everything_else_is_wrong(self):
        """The same calls with a good graph raise another error, or need nothing else."""
        free = ("check_graph", "inputs_of", "work_of", "write_graph", "cost_of", "prune", "fold_constants", "share",
                "default_schedule", "replay nothing", "graph_terms")
        for name, call in CALLS.items():
            error = error_of(call, GOOD)
            self.assertEqual(error is None, name in free, name)
            self.assertTrue(error is None or issubclass(error, TensorError))

    def test_machine(self):
        for name, call in MACHINE_CALLS.items():
            for machine in BAD_MACHINES:
                self.assertIs(error_of(call, machine), MachineError, name)
            if name != "tuned_schedule":
                self.assertIsNot(error_of(call, (64, 99, 20, 1, 1)), MachineError, name)
                self.assertIsNotNone(error_of(call, (64, 99, 20, 1, 1)), name)
