"""The interface: each name exists, in the file under which it is listed, with the arguments that are listed."""

import inspect
import unittest
from importlib import import_module

FUNCTIONS = {
    "ratios": ("fraction(numerator, denominator)", "plus(a, b)", "minus(a, b)", "times(a, b)", "over(a, b)",
               "compare(a, b)", "magnitude(a)", "whole(a)", "nearest(a)", "write_fraction(a)", "read_fraction(text)"),
    "shapes": ("check_shape(shape)", "count_of(shape)", "letters_of(shape)", "broadcast(first, second)",
               "offset(shape, at)", "indexes(shape, position)"),
    "kinds": ("pointwise(kind, values, info)",),
    "domains": ("domain_of(node, domains)",),
    "graphs": ("check_graph(graph)", "inputs_of(graph)", "work_of(graph)"),
    "notation": ("write_graph(graph)", "read_graph(text)"),
    "meaning": ("evaluate(graph, feeds)", "evaluate_all(graph, feeds)"),
    "tangents": ("tangent_graph(graph, low, high)",),
    "gradients": ("gradient_graph(graph, low, high)",),
    "rules": ("apply_rule(graph, rule, node)",),
    "rewriting": ("sites(graph, rule)", "replay(graph, steps)"),
    "tidying": ("prune(graph)", "fold_constants(graph)", "share(graph)"),
    "optimizing": ("cost_of(graph)", "optimize(graph, fuel)"),
    "graph_terms": ("graph_terms(table, graph)",),
    "loops": ("check_program(program)",),
    "running": ("run_program(program, given)",),
    "agreeing": ("program_terms(table, program, given)", "agree(first, second)"),
    "lowering": ("lower(graph, kept)",),
    "changes": ("apply_change(program, change)",),
    "lives": ("lives(program, outs)", "meet(one, other)"),
    "placing": ("check_places(all_lives, sizes, places)", "peak_of(all_lives, sizes)", "choose_places(all_lives, sizes)"),
    "machines": ("check_machine(machine)", "fits(machine, n)"),
    "instructions": ("check_code(machine, code)",),
    "listing": ("write_code(machine, code)", "read_code(machine, text)"),
    "device": ("run_code(machine, code, main, near, delays)",),
    "auditing": ("audit_code(table, machine, code, main)",),
    "generating": ("generate(machine, program, layout, spare)",),
    "building": ("build(graph, schedule, machine)",),
    "certifying": ("certify(graph, machine, code, inputs, constants, outputs)",),
    "scheduling": ("default_schedule(graph)", "tuned_schedule(graph, machine)"),
    "scales": ("multiplier(a)", "code_of(pair, bits, x)", "meaning_of(pair, code)", "choose_table(graph, bits)",
               "check_table(graph, table, bits)"),
    "quantizing": ("quantize_graph(graph, table, bits)", "encode_feeds(graph, table, bits, feeds)",
                   "decode_outputs(graph, table, bits, values)"),
    "bounds": ("bound_of(graph, table, bits)",),
    "updating": ("step_graph(graph, parameters, rate, low, high)",),
    "journal": ("check_number(text)", "journal_line(steps, weights)", "read_line(line, sizes)"),
    "trainer": ("resume(trainer, text)",),
    "lines": ("line_terms(graph, feeds, direction)", "value_at(terms, t)"),
    "creases": ("right_slopes(graph, feeds, direction)", "left_slopes(graph, feeds, direction)",
                "creases(graph, feeds, direction)", "partials(graph, feeds)", "is_gradient(graph, feeds, weights, told)"),
    "devices": ("check_devices(devices)", "check_pieces(graph, pieces)"),
    "pieces": ("programs_of(graph, pieces, many, assignment)", "words_sent(graph, pieces, many, assignment)",
               "peaks_of(graph, pieces, many, assignment)"),
    "going": ("is_right(graph, devices, programs)", "run_programs(graph, devices, programs, feeds, order)"),
    "splitting": ("fits(graph, pieces, devices, assignment)", "split(graph, pieces, devices)"),
    "plantext": ("write_devices(devices)", "read_devices(text)", "write_programs(programs)", "read_programs(text)"),
    "sessions": ("reached_from(graph, inputs)", "replay_changes(session, text)"),
    "steps": ("steps_graph(graph, parameters, rate, low, high, count)", "steps_feeds(graph, parameters, weights, batches)"),
    "images": ("load_image(image, feeds, filler)", "unload_image(image, main)", "run_image(image, feeds, filler, delays)"),
}
METHODS = (
    "__init__(self)", "__len__(self)", "number(self, n)", "variable(self, key, low, high)", "make(self, kind, ids, info)",
    "pick(self, ids, index)", "span(self, id_of_term)", "value(self, id_of_term, values)",
)
DEVICE = (
    "__init__(self, machine, code, main, near, delays)", "step(self)", "slot(self, k)", "main_word(self, k)",
    "near_word(self, k)", "pending(self, q)",
)
TRAINER = (
    "__init__(self, graph, parameters, *, rate, low, high, schedule, machine, weights)", "step(self, batch, filler, delays)",
)
SESSION = ("__init__(self, graph, feeds)", "change(self, changes)", "undo(self)", "redo(self)")
COURSE = TRAINER + ("mark(self, name)", "back(self, name)", "erase(self, name)")
PROPERTIES = {
    ("device", "Device"): ("at", "stopped"), ("trainer", "Trainer"): ("weights", "steps", "journal"),
    ("sessions", "Session"): ("tensors", "answers", "evaluated", "journal"),
    ("courses", "Course"): ("weights", "steps", "journal", "losses", "marks"),
}
IMAGE = ("graph", "program", "machine", "code", "inputs", "constants", "outputs", "words")
CONSTANTS = {
    "shapes": {"RANK_LIMIT": 4, "SIZE_LIMIT": 16, "COUNT_LIMIT": 256},
    "kinds": {"NODE_LIMIT": 400, "WORK_LIMIT": 50000, "WIDTH_LIMIT": 200},
    "terms": {"VALUE_LIMIT": 20000},
    "changes": {"CHANGES": ("tile", "swap", "unroll", "reverse", "split", "fuse", "stage")},
    "generating": {"SPARE": 20},
    "lines": {"DEGREE_LIMIT": 24},
    "creases": {"PARTIAL_LIMIT": 64, "PARTIAL_WORK": 50000},
    "devices": {"DEVICE_LIMIT": 3, "PIECE_LIMIT": 7, "ROOM_LIMIT": 65536},
    "steps": {"STEP_LIMIT": 20},
}


class Interface(unittest.TestCase):
    def test_functions(self):
        for stem, heads in FUNCTIONS.items():
            module = import_module("tensorworks." + stem)
            for head in heads:
                name = head.partition("(")[0]
                function = getattr(module, name)
                self.assertEqual(function.__module__, module.__name__)
                self.assertEqual(name + str(inspect.signature(function)), head)

    def check_class(self, found, home, heads):
        self.assertEqual(found.__module__, home)
        for head in heads:
            name = head.partition("(")[0]
            self.assertEqual(name + str(inspect.signature(vars(found)[name])), head)

    def test_terms(self):
        module = import_module("tensorworks.terms")
        self.check_class(module.Terms, "tensorworks.terms", METHODS)

    def test_device(self):
        module = import_module("tensorworks.device")
        self.check_class(module.Device, "tensorworks.device", DEVICE)

    def test_trainer_session_and_course(self):
        for stem, name, heads in (("trainer", "Trainer", TRAINER), ("sessions", "Session", SESSION), ("courses", "Course", COURSE)):
            home = "tensorworks." + stem
            self.check_class(getattr(import_module(home), name), home, heads)

    def test_properties(self):
        for (stem, home), names in PROPERTIES.items():
            for name in names:
                self.assertIsInstance(vars(getattr(import_module("tensorworks." + stem), home))[name], property)

    def test_image(self):
        module = import_module("tensorworks.building")
        self.assertEqual(module.Image.__module__, "tensorworks.building")
        graph = ((("input", (), ((), 0, 9)),), (0,))
        image = module.build(graph, ((), (), (), ()), (32, 1, 20, 1, 1))
        for name in IMAGE:
            self.assertTrue(hasattr(image, name), name)

    def test_constants(self):
        for stem, values in CONSTANTS.items():
            module = import_module("tensorworks." + stem)
            for name, value in values.items():
                self.assertEqual(getattr(module, name), value)
        self.assertEqual(len(import_module("tensorworks.kinds").KINDS), 25)
        self.assertEqual(len(import_module("tensorworks.rules").RULES), 30)

    def test_arguments_stay_as_they_are(self):
        """Tuples cannot change; the dict of values is the only other argument."""
        terms = import_module("tensorworks.terms")
        table = terms.Terms()
        values = {(0,): 3, (1,): 4}
        table.value(table.make("mul", (table.variable((0,), 0, 9), table.variable((1,), 0, 9)), ()), values)
        self.assertEqual(values, {(0,): 3, (1,): 4})
