"""Point 901: the code of loop programs."""

import random
import unittest

from tensorworks.agreeing import program_terms
from tensorworks.auditing import audit_code
from tensorworks.changes import apply_change
from tensorworks.errors import MachineError, TensorError
from tensorworks.generating import SPARE, generate
from tensorworks.instructions import check_code
from tensorworks.lives import lives
from tensorworks.lowering import lower
from tensorworks.machines import fits
from tensorworks.placing import choose_places
from tensorworks.terms import Terms
from tests.helpers import error_of, graph_of, random_graph, tensor
from tests.programs import ZERO, apply, copy, deep, form, guard, load, loop, num, pick, put, random_program, var, when

MACHINE = (128, 2048, 256, 1, 1)


class Watched(Terms):
    """A table that notes whether all terms that it made fit a machine."""

    def __init__(self, machine):
        super().__init__()
        self.machine = machine
        self.fitting = True

    def make(self, kind, ids, info):
        made = super().make(kind, ids, info)
        self.fitting = self.fitting and all(fits(self.machine, end) for end in self.span(made))
        return made


def spread_out(chance, sizes, start, end):
    """Return addresses for sizes, in any order, with gaps, that do not overlap."""
    order = chance.sample(range(len(sizes)), len(sizes))
    room = end - start - sum(sizes)
    places, at = {}, start
    for k in order:
        gap = chance.choice([0, 0, chance.randint(0, room // len(sizes))])
        places[k] = at + gap
        at += gap + sizes[k]
    return [places[k] for k in range(len(sizes))]


def layout_of(program, machine, seed):
    """Return a layout and the address of the spare words."""
    chance = random.Random(seed)
    buffers = program[0]
    far = [size for role, size in buffers if role != "near"]
    close = [size for role, size in buffers if role == "near"] + [SPARE]
    mains = iter(spread_out(chance, far, 0, machine[1]))
    *nears, spare = spread_out(chance, close, 0, machine[2])
    nears = iter(nears)
    return tuple(next(nears) if role == "near" else next(mains) for role, _ in buffers), spare


class Generate(unittest.TestCase):
    def free(self, table, program, low, high):
        sizes = [size for role, size in program[0] if role == "in"]
        return tuple(tuple(table.variable((k, e), low, high) for e in range(size)) for k, size in enumerate(sizes))

    def check(self, program, machine, layout, spare, low=-9, high=9):
        """The code is valid, and the audit of it finds the terms of the program; tell whether that was asked."""
        table = Watched(machine)
        given = self.free(table, program, low, high)
        rows = program_terms(table, program, given)
        if not table.fitting:
            return False
        code = generate(machine, program, layout, spare)
        self.assertIsNone(check_code(machine, code))
        main = [None] * machine[1]
        fed = iter(given)
        for (role, _), at in zip(program[0], layout):
            if role == "in":
                row = next(fed)
                main[at:at + len(row)] = row
        end = audit_code(table, machine, code, tuple(main))
        for at, row in self.kept(program, layout, rows):
            for k, term in enumerate(row):
                if term is not None:
                    self.assertEqual(end[at + k], term)
        return True

    def kept(self, program, layout, rows):
        """Return the places and terms of the main buffers that no buffer overwrites whose life begins later."""
        mains = [(at, row) for (role, _), at, row in zip(program[0], layout, rows) if role == "main"]
        begins = [start for start, _ in lives(program, ())]
        found = []
        for k, (at, row) in enumerate(mains):
            later = [other for j, other in enumerate(mains) if begins[j] > begins[k]]
            if not any(at < place + len(words) and place < at + len(row) for place, words in later):
                found.append((at, row))
        return found

    def test_random_programs(self):
        asked = 0
        for seed in range(200):
            program = random_program(seed)
            for turn in range(2):
                layout, spare = layout_of(program, MACHINE, seed + turn)
                asked += self.check(program, MACHINE, layout, spare)
        self.assertGreater(asked, 300)

    def test_small_words(self):
        machine = (32, 64, 64, 4, 16)
        asked = 0
        for seed in range(100):
            program = random_program(seed + 500, 3)
            layout, spare = layout_of(program, machine, seed)
            asked += self.check(program, machine, layout, spare, -2, 3)
        self.assertGreater(asked, 60)

    def test_changed_programs(self):
        asked = 0
        for seed in range(120):
            program = random_program(seed, 3)
            loops = [at for at, statement in enumerate(program[1]) if statement[0] == "loop"]
            chance = random.Random(seed)
            for name in ("tile", "reverse", "unroll", "stage"):
                path = (chance.choice(loops),)
                change = {"tile": (name, path, 2), "stage": (name, path, 0, ZERO, program[0][0][1], "both")}.get(name, (name, path))
                if error_of(apply_change, program, change) is None:
                    changed = apply_change(program, change)
                    layout, spare = layout_of(changed, MACHINE, seed)
                    asked += self.check(changed, MACHINE, layout, spare)
        self.assertGreater(asked, 120)

    def test_lowered_graphs(self):
        machine = (256, 4096, 64, 1, 1)
        for seed in range(60):
            graph = random_graph(seed, 12, most=36)
            kept = tuple(at for at, node in enumerate(graph[0]) if node[0] not in ("input", "const"))
            program, _ = lower(graph, kept)
            layout, spare = layout_of(program, machine, seed)
            self.assertTrue(self.check(program, machine, layout, spare))

    def test_buffers_that_share_words(self):
        shared = 0
        for seed in range(60):
            graph = random_graph(seed, 14, most=27)
            kept = tuple(at for at, node in enumerate(graph[0]) if node[0] not in ("input", "const"))
            program, _ = lower(graph, kept)
            given = [size for role, size in program[0] if role == "in"]
            sizes = tuple(size for role, size in program[0] if role == "main")
            places = iter(choose_places(lives(program, ()), sizes))
            starts = iter(sum(given[:k]) for k in range(len(given)))
            layout = tuple(next(starts) if role == "in" else sum(given) + next(places) for role, _ in program[0])
            used = max(at + size for at, (_, size) in zip(layout, program[0]))
            shared += used < sum(given) + sum(sizes)
            self.assertTrue(self.check(program, (256, used, 20, 1, 1), layout, 0))
        self.assertGreater(shared, 40)

    def alone(self, *body, buffers=(("in", 8), ("main", 8), ("near", 8)), machine=(32, 16384, 4096, 1, 1)):
        """Check a program with the buffers at the start of the memories and at their ends."""
        program = (buffers, body)
        sums = {"far": 0, "near": 0}
        low = []
        for role, size in buffers:
            name = "near" if role == "near" else "far"
            low.append(sums[name])
            sums[name] += size
        room = {"far": machine[1] - sums["far"], "near": machine[2] - sums["near"]}
        high = [at + room["near" if role == "near" else "far"] for at, (role, _) in zip(low, buffers)]
        self.assertTrue(self.check(program, machine, tuple(low), sums["near"], -3, 3))
        self.assertTrue(self.check(program, machine, tuple(high), room["near"] - SPARE, -3, 3))
        self.assertTrue(self.check(program, machine, tuple(high), 0, -3, 3))

    def test_no_statements(self):
        self.assertEqual(generate(MACHINE, ((), ()), (), 0), ())
        self.alone()

    def test_statements_that_are_never_executed(self):
        """Their addresses lie far outside of the memories; the code is valid all the same."""
        for base in (-4096, 4096):
            for where in (form(base), form(base, (0, 4096)), form(base, (0, -4096))):
                inside = (
                    put(1, where, load(0, where)), put(2, where, load(2, where)), put(1, where, pick(0, where, base, 16, num(0))),
                    put(1, where, pick(2, where, base, 16, num(0))), copy(2, where, 0, where, 4096), copy(1, where, 2, where, 1))
                self.alone(loop(0, 1, 1, 3, when(form(-1), *inside), put(1, var(0), guard(form(-1), load(0, where), num(1)))))

    def test_conditions(self):
        for base in (-2, 0, 1):
            for factor in (-1, 1, 2):
                where = form(base, (0, factor))
                self.alone(loop(0, 0, 1, 4, when(where, put(1, var(0), guard(form(-base, (0, 1)), load(0, var(0)), ("index", where))))))

    def test_nested_conditions(self):
        inner = guard(var(0, -1, 2), guard(var(0, 1, -1), num(1), load(0)), guard(var(0, 1, -3), num(2), load(0, form(1))))
        self.alone(loop(0, 0, 1, 5, when(form(5, (0, -2)), put(1, var(0), apply("add", inner, inner)), when(form(3, (0, -2)), put(
            1, var(0, 1, 1), inner)))))

    def test_picks(self):
        """Each stride, in each memory; the index may be outside, and may be a number."""
        for stride, base in ((1, 0), (2, 1), (-1, 3), (-2, 7), (0, 5), (3, 1)):
            for index in (load(0, var(0)), num(1), num(-5), num(99), apply("mul", load(0), num(2)), apply("neg", load(0, form(7)))):
                self.alone(
                    copy(2, ZERO, 0, ZERO, 8), loop(0, 0, 1, 2, put(1, var(0), pick(0, form(base), stride, 3 if stride else 9, index)), put(
                        1, var(0, 1, 2), pick(2, form(base), stride, 3 if stride else 9, index))),
                    put(1, form(4), pick(0, form(2), 1, 1, load(0))))

    def test_picks_of_picks(self):
        inner = pick(2, ZERO, 1, 8, pick(0, form(7), -1, 8, load(0)))
        self.alone(copy(2, ZERO, 0, ZERO, 8), put(1, ZERO, pick(0, ZERO, 1, 8, inner)), put(1, form(1), apply("sub", inner, inner)))

    def test_picks_as_operands(self):
        """What is worked out for a pick does not touch what is held for the operands before it."""
        where = form(1, (0, 1), (1, 2))
        for buffer in (0, 2):
            one = pick(buffer, where, 1, 2, load(0, where))
            self.alone(copy(2, ZERO, 0, ZERO, 8), loop(0, 0, 1, 2, loop(1, 0, 1, 2, put(1, form(0, (0, 1), (1, 2)), apply(
                "where", load(0), apply("sub", load(0, form(1)), one), apply("add", one, apply("mul", num(3), one)))))))

    def test_picks_with_large_strides(self):
        buffers = (("in", 4096), ("main", 2), ("near", 1))
        index = load(0)
        self.alone(put(1, ZERO, pick(0, ZERO, 273, 16, index)), put(1, form(1), pick(0, form(4095), -4095, 2, index)), buffers=buffers)

    def test_long_buffers(self):
        buffers = (("in", 4096), ("main", 4096), ("near", 4000))
        self.alone(copy(2, ZERO, 0, form(96), 4000), copy(1, form(4), 2, form(4), 3996), put(1, ZERO, load(0, form(4095))), buffers=buffers)
        self.alone(copy(2, ZERO, 0, form(40), 4), loop(0, 10, 10, 3, copy(1, var(0, 100), 2, ZERO, 4)), buffers=buffers)

    def test_deep_loops_and_expressions(self):
        """Eight loops and ten levels with three args each: all slots that can be needed at once."""
        leaf = load(0, form(-8, *[(v, 2 if v == 0 else 1) for v in range(1, 8)], (8, 3)))
        expr = leaf
        for _ in range(8):
            expr = apply("where", num(0), num(1), expr)
        expr = apply("where", load(0), pick(0, ZERO, 1, 8, load(0, form(1))), expr)
        body = put(1, var(8), expr)
        for v in range(8, 0, -1):
            body = loop(v, 1, 1, 1, body)
        self.alone(body, put(1, form(2), deep(10)))
        tree = pick(0, ZERO, 2, 3, load(0, form(4)))
        for level in range(4):
            tree = apply("where", tree, tree, guard(form(level - 2), tree, num(level)))
        self.alone(put(1, ZERO, tree))

    def test_bases_beyond_all_offsets(self):
        """At the end of main memory a base alone can lead beyond what an instruction can add to a slot."""
        first, second = form(4096, (0, -4096), (1, 1)), form(1, (1, 1))
        self.alone(loop(0, 1, 1, 1, loop(
            1, 0, 1, 3, put(1, first, load(0, first)), put(1, form(4096, (0, -4092)), pick(0, first, 2, 3, load(0, second))), put(
                1, form(4096, (0, -4091)), pick(0, form(4096, (0, -4096)), 1, 8, apply("neg", load(0, second)))),
            copy(2, var(1), 0, form(4096, (0, -4096), (1, 2)), 2), copy(1, form(4096, (0, -4090)), 2, var(1), 1))))

    def test_copies_in_deep_loops(self):
        where = form(-5, *[(v, 2 if v == 6 else 1) for v in range(1, 8)])
        other = form(-6, *[(v, 3 if v == 5 else 1) for v in range(8)])
        body = (copy(2, where, 0, other, 2), copy(1, other, 2, where, 2), put(1, form(-7, *[(v, 1) for v in range(8)]), ("index", where)))
        for v in range(7, -1, -1):
            body = (loop(v, 1, 1, 2 if v == 0 else 1, *body),)
        self.alone(*body)

    def test_forms_with_many_terms(self):
        body = put(1, ZERO, ("index", form(-3, *[(v, factor) for v, factor in enumerate((1, -1, 5, -7, 1, 2, 4096, -4096))])))
        for v in range(8):
            body = loop(v, v - 1, 2, 2, body)
        self.alone(body)

    def test_starts_and_steps(self):
        self.alone(loop(0, 7, -7, 2, put(1, var(0), ("index", var(0, 4096, -4096)))), loop(0, 3, 0, 2, put(1, var(0), num(-4))))
        self.alone(loop(0, 1000, -2, 1000, when(var(0, 1, -996), put(1, var(0, 1, -996), num(4)))))

    def test_long_programs(self):
        program = ((("in", 8), ("main", 8), ("near", 8)), tuple(put(1, form(k % 8), load(0, form(k % 7))) for k in range(5000)))
        self.assertTrue(self.check(program, MACHINE, (0, 8, 0), 8))

    def test_errors(self):
        program = lower(graph_of([tensor("k2"), ("neg", (0,), ())]), (1,))[0]
        self.assertIs(error_of(generate, (31,) + MACHINE[1:], program, (0, 2), 0), MachineError)
        self.assertEqual(SPARE, 20)
        self.assertTrue(issubclass(MachineError, TensorError))
