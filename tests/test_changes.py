"""Point 609: changes of loop programs."""

import random
import unittest

from tensorworks.agreeing import agree
from tensorworks.changes import CHANGES, apply_change
from tensorworks.errors import ChangeError, FormError, RangeError, TooLarge
from tensorworks.lowering import lower
from tensorworks.running import run_program
from tests.helpers import error_of, random_graph
from tests.programs import (
    ZERO, apply, copy, form, given_for, guard, load, loop, num, pick, put, random_program, var, when)

BUFFERS = (("in", 8), ("main", 8))


def square(where):
    return put(1, where, apply("mul", load(0, where), load(0, where)))


def program(*body, buffers=BUFFERS):
    return (buffers, body)


def changed(body, *change, buffers=BUFFERS):
    """Return the body of the changed program, after asking that it agrees and that the buffers stay."""
    made = apply_change((buffers, body), change)
    assert made[0] == buffers and agree((buffers, body), made)
    return made[1]


def error(body, *change, buffers=BUFFERS):
    return error_of(apply_change, (buffers, body), change)


LOOP = (loop(0, 0, 1, 8, square(var(0))),)
STEPS = (loop(3, 7, -2, 4, square(var(3)), put(1, var(3, 1, -1), num(5))),)
NEST = (loop(0, 0, 1, 2, loop(1, 3, -1, 4, square(form(0, (0, 4), (1, 1))))),)


class Tile(unittest.TestCase):
    def test_where_the_size_divides(self):
        self.assertEqual(changed(LOOP, "tile", (0,), 2), (
            loop(1, 0, 1, 4, loop(0, 0, 1, 2, square(form(0, (0, 1), (1, 2))))),))
        self.assertEqual(changed(LOOP, "tile", (0,), 8), (
            loop(1, 0, 1, 1, loop(0, 0, 1, 8, square(form(0, (0, 1), (1, 8))))),))
        self.assertEqual(changed(LOOP, "tile", (0,), 1), (
            loop(1, 0, 1, 8, loop(0, 0, 1, 1, square(form(0, (0, 1), (1, 1))))),))

    def test_where_it_does_not(self):
        inside = when(form(7, (0, -1), (1, -3)), square(form(0, (0, 1), (1, 3))))
        self.assertEqual(changed(LOOP, "tile", (0,), 3), (loop(1, 0, 1, 3, loop(0, 0, 1, 3, inside)),))

    def test_start_and_step(self):
        inside = when(form(3, (3, -1), (4, -3)), square(form(7, (3, -2), (4, -6))), put(1, form(6, (3, -2), (4, -6)), num(5)))
        self.assertEqual(changed(STEPS, "tile", (0,), 3), (loop(4, 0, 1, 2, loop(3, 0, 1, 3, inside)),))

    def test_a_step_of_0(self):
        self.assertEqual(changed((loop(0, 2, 0, 4, square(var(0))),), "tile", (0,), 2), (
            loop(1, 0, 1, 2, loop(0, 0, 1, 2, square(form(2)))),))

    def test_the_new_variable_is_the_greatest_of_all(self):
        body = (loop(9, 0, 1, 1, loop(2, 0, 1, 2, square(var(2)))), LOOP[0])
        made = changed(body, "tile", (1,), 4)
        self.assertEqual(made[1], loop(10, 0, 1, 2, loop(0, 0, 1, 4, square(form(0, (0, 1), (10, 4))))))
        made = changed((loop(0, 0, 1, 2, loop(5, 0, 1, 4, square(form(0, (0, 4), (5, 1))))),), "tile", (0,), 1)
        self.assertEqual(made[0][1], 6)

    def test_forms_get_merged(self):
        body = (loop(1, 0, 1, 2, loop(0, 0, 1, 4, square(form(0, (0, 1), (1, 4))))),)
        self.assertEqual(changed(body, "tile", (0, 0), 2)[0][5][0][5][0][5][0], square(form(0, (0, 1), (1, 4), (2, 2))))

    def test_sizes(self):
        for size in (0, -1, 9, 100):
            self.assertIs(error(LOOP, "tile", (0,), size), ChangeError)


class Swap(unittest.TestCase):
    def test_swap(self):
        self.assertEqual(changed(NEST, "swap", (0,)), (
            loop(1, 3, -1, 4, loop(0, 0, 1, 2, square(form(0, (0, 4), (1, 1))))),))

    def test_only_a_single_loop(self):
        for inside in ((square(var(0)),), (NEST[0][5][0], square(var(0))), (when(ZERO, loop(1, 0, 1, 2, square(var(1)))),)):
            self.assertIs(error((loop(0, 0, 1, 2, *inside),), "swap", (0,)), ChangeError)
        self.assertIs(error(LOOP, "swap", (0,)), ChangeError)

    def test_order_matters(self):
        body = (loop(0, 0, 1, 2, loop(1, 0, 1, 2, put(1, ZERO, ("index", form(0, (0, 2), (1, 1)))))),)
        self.assertEqual(changed(body, "swap", (0,))[0][1], 1)
        twice = apply("add", apply("mul", load(1), num(2)), ("index", var(0)))
        body = (put(1, ZERO, num(0)), loop(0, 0, 1, 2, loop(1, 0, 1, 2, put(1, ZERO, twice))))
        self.assertIs(error(body, "swap", (1,)), ChangeError)


class Unroll(unittest.TestCase):
    def test_unroll(self):
        self.assertEqual(changed(STEPS, "unroll", (0,)), tuple(
            statement for k in (7, 5, 3, 1) for statement in (square(form(k)), put(1, form(k - 1), num(5)))))

    def test_inside_of_others(self):
        body = (square(ZERO), when(ZERO, loop(0, 0, 1, 2, LOOP[0][:1] + (1,) + LOOP[0][2:5] + ((square(var(1)),),))))
        self.assertEqual(changed(body, "unroll", (1, 0, 0)), (
            square(ZERO), when(ZERO, loop(0, 0, 1, 2, *[square(form(k)) for k in range(8)]))))

    def test_all_forms_are_replaced(self):
        buffers = BUFFERS + (("near", 8),)
        inside = (
            copy(2, var(0), 0, var(0), 1), when(form(0, (0, 1)), put(1, var(0), guard(var(0, -1), ("index", var(0, 3)), load(2, var(0))))),
            put(1, var(0), pick(0, var(0), 1, 1, load(2, var(0)))))
        made = changed((loop(0, 1, 1, 1, *inside),), "unroll", (0,), buffers=buffers)
        at = form(1)
        self.assertEqual(made, (
            copy(2, at, 0, at, 1), when(at, put(1, at, guard(form(-1), ("index", form(3)), load(2, at)))),
            put(1, at, pick(0, at, 1, 1, load(2, at)))))

    def test_too_many_copies(self):
        body = (loop(0, 0, 1, 1000, *[put(1, ZERO, num(1))] * 11),)
        self.assertIs(error(body, "unroll", (0,)), ChangeError)
        many = copy(1, ZERO, 2, ZERO, 1)
        buffers = BUFFERS + (("near", 1),)
        body = (put(2, ZERO, num(1)), loop(0, 0, 1, 1000, *[many] * 20))
        self.assertIs(error(body, "unroll", (1,), buffers=buffers), ChangeError)
        body = (put(2, ZERO, num(1)), loop(0, 0, 1, 999, *[many] * 20))
        self.assertEqual(len(changed(body, "unroll", (1,), buffers=buffers)), 1 + 999 * 20)


class Reverse(unittest.TestCase):
    def test_reverse(self):
        self.assertEqual(changed(LOOP, "reverse", (0,)), (loop(0, 7, -1, 8, square(var(0))),))
        self.assertEqual(changed(STEPS, "reverse", (0,))[0][1:5], (3, 1, 2, 4))
        self.assertEqual(changed((loop(0, 5, 3, 1, square(var(0))),), "reverse", (0,)), (loop(0, 5, -3, 1, square(var(0))),))

    def test_order_matters(self):
        body = (loop(0, 0, 1, 3, put(1, ZERO, ("index", var(0)))),)
        self.assertIs(error(body, "reverse", (0,)), ChangeError)
        total = (put(1, ZERO, num(0)), loop(0, 0, 1, 8, put(1, ZERO, apply("add", load(1), load(0, var(0))))))
        self.assertEqual(changed(total, "reverse", (1,))[1][2:4], (7, -1))


class Split(unittest.TestCase):
    BODY = (loop(0, 0, 1, 4, square(var(0)), put(1, var(0, 1, 4), num(1)), put(1, var(0, 1, 4), num(2))),)

    def test_split(self):
        body = self.BODY[0][5]
        for at in (1, 2):
            self.assertEqual(changed(self.BODY, "split", (0,), at), (loop(0, 0, 1, 4, *body[:at]), loop(0, 0, 1, 4, *body[at:])))

    def test_places_to_split_at(self):
        for at in (0, 3, 4, -1):
            self.assertIs(error(self.BODY, "split", (0,), at), ChangeError)
        self.assertIs(error(LOOP, "split", (0,), 1), ChangeError)

    def test_words_that_are_needed_before(self):
        added = apply("add", load(1, var(0, 1, 1)), num(1))
        body = (put(1, ZERO, num(1)), loop(0, 0, 1, 3, put(1, var(0, 1, 1), load(1, var(0))), put(1, var(0, 1, 1), added)))
        self.assertIs(error(body, "split", (1,), 1), ChangeError)


class Fuse(unittest.TestCase):
    def test_fuse(self):
        body = (loop(4, 1, 2, 3, square(var(4))), loop(2, 1, 2, 3, put(1, var(2), num(7)), square(var(2))), square(ZERO))
        self.assertEqual(changed(body, "fuse", (0,)), (
            loop(4, 1, 2, 3, square(var(4)), put(1, var(4), num(7)), square(var(4))), square(ZERO)))

    def test_split_and_fuse(self):
        made = changed(Split.BODY, "split", (0,), 2)
        self.assertEqual(changed(made, "fuse", (0,)), Split.BODY)

    def test_the_next_statement(self):
        first = LOOP[0]
        for behind in (
                (), (square(ZERO),), (loop(1, 1, 1, 8, square(ZERO)),), (loop(1, 0, 0, 8, square(ZERO)),),
                (loop(1, 0, 1, 7, square(ZERO)),), (when(ZERO, loop(1, 0, 1, 8, square(ZERO))),), (square(ZERO), first)):
            self.assertIs(error((first,) + behind, "fuse", (0,)), ChangeError)
        self.assertIs(error((loop(0, 0, 1, 8, first[:1] + (1,) + first[2:5] + ((square(var(1)),),)), first), "fuse", (0, 0)), ChangeError)

    def test_the_variable_of_a_loop_inside(self):
        """The loop inside would have the variable of the loop around it."""
        body = (loop(0, 0, 1, 2, square(var(0))), loop(1, 0, 1, 2, loop(0, 0, 1, 2, square(form(0, (0, 1), (1, 2))))))
        self.assertIs(error(body, "fuse", (0,)), ChangeError)
        body = (loop(2, 0, 1, 2, square(var(2))), body[1])
        self.assertEqual(changed(body, "fuse", (0,))[0][5][1], loop(0, 0, 1, 2, square(form(0, (0, 1), (2, 2)))))

    def test_words_that_are_needed_later(self):
        body = (loop(0, 0, 1, 3, put(1, var(0), load(0, var(0)))), loop(1, 0, 1, 3, put(1, var(1, 1, 3), load(1, var(1, -1, 2)))))
        self.assertIs(error(body, "fuse", (0,)), ChangeError)


class Stage(unittest.TestCase):
    def stage(self, body, *change, buffers=BUFFERS):
        made = apply_change((buffers, body), ("stage",) + change)
        self.assertTrue(agree((buffers, body), made))
        self.assertEqual(made[0], buffers + (("near", change[3]),))
        return made[1]

    def test_in(self):
        body = (loop(0, 0, 1, 2, loop(1, 0, 1, 4, square(form(0, (0, 4), (1, 1))))),)
        at = form(0, (0, 4), (1, 1))
        inside = loop(1, 0, 1, 4, put(1, at, apply("mul", load(2, var(1)), load(2, var(1)))))
        self.assertEqual(self.stage(body, (0,), 0, var(0, 4), 4, "in"), (
            loop(0, 0, 1, 2, copy(2, ZERO, 0, var(0, 4), 4), inside),))

    def test_out(self):
        body = (loop(0, 0, 1, 2, loop(1, 0, 1, 4, square(form(0, (0, 4), (1, 1))))),)
        at = form(0, (0, 4), (1, 1))
        inside = loop(1, 0, 1, 4, put(2, var(1), apply("mul", load(0, at), load(0, at))))
        self.assertEqual(self.stage(body, (0,), 1, var(0, 4), 4, "out"), (
            loop(0, 0, 1, 2, inside, copy(1, var(0, 4), 2, ZERO, 4)),))

    def test_both(self):
        body = (loop(0, 0, 1, 8, put(1, var(0), num(0))), loop(0, 0, 1, 8, put(1, form(2), apply(
            "add", load(1, form(2)), pick(1, form(3), 1, 2, load(0, var(0)))))))
        self.assertEqual(self.stage(body, (1,), 1, form(2), 3, "both")[1], loop(
            0, 0, 1, 8, copy(2, ZERO, 1, form(2), 3),
            put(2, ZERO, apply("add", load(2), pick(2, form(1), 1, 2, load(0, var(0))))), copy(1, form(2), 2, ZERO, 3)))

    def test_statements_and_expressions_inside(self):
        buffers = BUFFERS + (("near", 8),)
        inside = (copy(2, ZERO, 0, form(1), 2), when(var(0), put(1, ZERO, guard(ZERO, pick(0, form(1), 1, 2, load(0, form(1))), num(1)))))
        made = self.stage((loop(0, 0, 1, 2, *inside),), (0,), 0, form(1), 2, "in", buffers=buffers)
        self.assertEqual(made, (loop(
            0, 0, 1, 2, copy(3, ZERO, 0, form(1), 2), inside[0],
            when(var(0), put(1, ZERO, guard(ZERO, pick(3, ZERO, 1, 2, load(3)), num(1))))),))

    def test_what_it_needs(self):
        buffers = BUFFERS + (("near", 8),)
        for buffer, mode in ((2, "in"), (3, "in"), (-1, "in"), (0, ""), (0, "near"), (1, "inout")):
            self.assertIs(error(LOOP, "stage", (0,), buffer, ZERO, 8, mode, buffers=buffers), ChangeError)
        self.assertIsNone(error(LOOP, "stage", (0,), 0, ZERO, 8, "in", buffers=buffers))

    def test_what_does_not_agree(self):
        """Too few words, a copy back to given words, words that are not copied back, words that are not set yet."""
        self.assertIs(error(LOOP, "stage", (0,), 0, ZERO, 7, "in"), ChangeError)
        self.assertIs(error(LOOP, "stage", (0,), 0, ZERO, 9, "in"), ChangeError)
        self.assertIs(error(LOOP, "stage", (0,), 0, ZERO, 8, "out"), ChangeError)
        self.assertIs(error(LOOP, "stage", (0,), 0, ZERO, 8, "both"), ChangeError)
        self.assertIs(error(LOOP, "stage", (0,), 1, ZERO, 8, "in"), ChangeError)
        self.assertIs(error(LOOP, "stage", (0,), 1, ZERO, 8, "both"), ChangeError)
        self.assertIs(error(LOOP, "stage", (0,), 1, var(0), 2, "out"), ChangeError)
        self.assertIsNone(error(LOOP, "stage", (0,), 1, var(0), 1, "out"))

    def test_forms_and_counts_that_are_wrong(self):
        for where, count in ((var(5), 1), (form(0, (0, 0)), 1), (form(5000), 1), (form(0, (0, 1), (0, 1)), 1), (ZERO, 0), (ZERO, 4097)):
            self.assertIs(error(LOOP, "stage", (0,), 0, where, count, "in"), ChangeError)


class Behind(unittest.TestCase):
    """The statements around the loop stay as they are."""

    def test_each_change(self):
        body = (loop(0, 0, 1, 4, square(var(0)), put(1, var(0, 1, 4), num(1))),)
        nest = (loop(0, 0, 1, 2, loop(1, 0, 1, 4, square(form(0, (0, 4), (1, 1))))),)
        twin = (loop(0, 0, 1, 4, square(var(0))), loop(1, 0, 1, 4, put(1, var(1, 1, 4), num(1))))
        before, after = put(1, form(7), num(3)), loop(0, 0, 1, 4, put(1, var(0), num(7)))
        for first, change in (
                (body, ("tile", 2)), (nest, ("swap",)), (body, ("unroll",)), (body, ("reverse",)), (body, ("split", 1)), (twin, ("fuse",)),
                (body, ("stage", 0, ZERO, 4, "in"))):
            alone = apply_change((BUFFERS, first), (change[0], (0,)) + change[1:])[1]
            made = apply_change((BUFFERS, (before,) + first + (after,)), (change[0], (1,)) + change[1:])[1]
            self.assertEqual(made, (before,) + alone + (after,), change)
            inside = apply_change((BUFFERS, (when(ZERO, before, *first, after), after)), (change[0], (0, 1)) + change[1:])[1]
            self.assertEqual(inside, (when(ZERO, before, *alone, after), after))

    def test_modes(self):
        body = (loop(0, 0, 1, 8, put(1, var(0), num(0))), loop(0, 0, 1, 8, put(1, var(0), apply("add", load(1, var(0)), num(1)))))
        for mode, expected in (("both", None), ("", ChangeError), ("inout", ChangeError), ("Both", ChangeError), ("near", ChangeError)):
            self.assertIs(error(body, "stage", (1,), 1, ZERO, 8, mode), expected)


class Paths(unittest.TestCase):
    BODY = (square(ZERO), when(ZERO, square(ZERO), loop(0, 0, 1, 2, square(var(0)), when(ZERO, square(ZERO)))))

    def test_paths_to_no_loop(self):
        for path in ((), (0,), (1,), (2,), (-1,), (1, 0), (1, 2), (1, -1), (1, 1, 0), (1, 1, 1), (1, 1, 2), (0, 0), (1, 0, 0),
                     (1, 1, 0, 0), (1, 1, 1, 0), (1, 1, 1, 0, 0)):
            self.assertIs(error(self.BODY, "reverse", path), ChangeError, path)
        self.assertEqual(changed(self.BODY, "reverse", (1, 1))[1][2][1][2:4], (1, -1))

    def test_names(self):
        self.assertEqual(CHANGES, ("tile", "swap", "unroll", "reverse", "split", "fuse", "stage"))
        for name in ("", "Tile", "vectorize", "reverse "):
            self.assertIs(error(LOOP, name, (0,)), ChangeError)
            self.assertIs(error(LOOP, name, ()), ChangeError)


class Errors(unittest.TestCase):
    def test_of_the_program_first(self):
        self.assertIs(error((put(0, ZERO, num(1)),), "none", ()), FormError)
        self.assertIs(error((put(1, form(5000), num(1)),), "none", ()), RangeError)
        self.assertIs(error((put(1, ZERO, num(1)),) * 10001, "none", ()), TooLarge)

    def test_of_the_new_program(self):
        """Too many loops, statements or parts, and factors out of their range."""
        deep = square(var(0))
        for variable in range(8):
            deep = loop(variable, 0, 1, 2, deep)
        path = (0,)
        self.assertIs(error((deep,), "tile", path, 2), ChangeError)
        for factor, expected in ((2048, None), (2049, ChangeError)):
            body = (loop(0, 0, 1, 2, loop(1, 0, 1, 2, put(1, ZERO, ("index", var(0, factor))))),)
            self.assertIs(error(body, "tile", (0,), 2), expected)
        body = (loop(0, 0, 2, 3, put(1, ZERO, ("index", var(0, 4096)))),)
        self.assertIs(error(body, "tile", (0,), 2), ChangeError)
        body = (loop(0, 0, 1, 3, put(1, ZERO, ("index", var(0, 4096)))),)
        self.assertIs(error(body, "unroll", (0,)), ChangeError)
        body = (loop(0, 0, 1, 3, *[put(1, var(0), num(1))] * 5000),)
        self.assertIs(error(body, "unroll", (0,)), ChangeError)

    def test_of_the_terms(self):
        """Neither of both may read unset words, or words outside."""
        unset = loop(0, 0, 1, 2, put(1, ZERO, load(1)))
        self.assertIs(error((unset,), "reverse", (0,)), ChangeError)
        outside = loop(0, 7, 1, 2, square(var(0)))
        self.assertIs(error((outside,), "reverse", (0,)), ChangeError)
        body = (loop(0, 0, 1, 2, put(1, var(0), guard(form(0, (0, -1)), num(1), load(1)))),)
        self.assertIs(error(body, "reverse", (0,)), ChangeError)
        wide = load(0)
        for _ in range(7):
            wide = apply("mul", wide, wide)
        self.assertIs(error((loop(0, 0, 1, 2, put(1, var(0), wide)),), "reverse", (0,)), ChangeError)


def loops_of(body, path=()):
    """Return the paths to all loops."""
    found = []
    for at, statement in enumerate(body):
        if statement[0] == "loop":
            found.append(path + (at,))
        if statement[0] in ("loop", "when"):
            found += loops_of(statement[-1], path + (at,))
    return found


class Random(unittest.TestCase):
    def change(self, chance, path, buffers):
        name = chance.choice(CHANGES)
        if name in ("tile", "split"):
            return (name, path, chance.randint(1, 3))
        if name == "stage":
            buffer = chance.randrange(len(buffers))
            count = buffers[buffer][1]
            return (name, path, buffer, ZERO, count, chance.choice(["in", "out", "both"]))
        return (name, path)

    def test_random_programs(self):
        """A change that is made leaves the same words in main memory."""
        made = dict.fromkeys(CHANGES, 0)
        for seed in range(250):
            chance = random.Random(seed)
            first = random_program(seed, 3)
            program = first
            for _ in range(4):
                change = self.change(chance, chance.choice(loops_of(program[1])), program[0])
                try:
                    program = apply_change(program, change)
                except ChangeError:
                    continue
                made[change[0]] += 1
            for turn in range(2):
                given = given_for(first, turn)
                words = [[row for (role, _), row in zip(p[0], run_program(p, given)) if role == "main"] for p in (first, program)]
                self.assertEqual(*words)
        self.assertTrue(all(many > 5 for many in made.values()), made)

    def test_lowered_graphs(self):
        made = 0
        for seed in range(25):
            graph = random_graph(seed, 10, most=27)
            kept = tuple(at for at, node in enumerate(graph[0]) if node[0] not in ("input", "const"))
            program, _ = lower(graph, kept)
            for path in loops_of(program[1])[:4]:
                for change in (("tile", path, 1), ("reverse", path), ("unroll", path)):
                    self.assertIsNone(error_of(apply_change, program, change), (seed, change))
                    made += 1
        self.assertGreater(made, 100)
