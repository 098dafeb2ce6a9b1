"""Points 605 and 606: loop programs on terms, and programs that agree."""

import unittest

from tensorworks.agreeing import agree, program_terms
from tensorworks.errors import FeedError, FormError, RangeError, TooLarge, TooWide, UnsetWord
from tensorworks.running import run_program
from tensorworks.terms import Terms
from tests.helpers import error_of
from tests.programs import (
    ZERO, apply, copy, form, given_for, guard, load, loop, num, pick, put, random_program, var, when)

BUFFERS = (("in", 3), ("main", 3), ("near", 2))


def words(table, *body, low=-9, high=9):
    """Return the given variables and the terms of the buffers."""
    given = tuple(table.variable((0, e), low, high) for e in range(3))
    return given, program_terms(table, (BUFFERS, body), (given,))


def error(*body, given=None, low=-9, high=9):
    table = Terms()
    free = (tuple(table.variable((0, e), low, high) for e in range(3)),)
    return error_of(program_terms, table, (BUFFERS, body), free if given is None else given)


class Words(unittest.TestCase):
    def test_numbers_indexes_and_loads(self):
        table = Terms()
        given, rows = words(
            table, put(1, ZERO, num(-4)), loop(0, 1, 1, 2, put(1, var(0), ("index", var(0, 5)))), copy(2, ZERO, 0, ZERO, 1))
        self.assertEqual(rows, (given, tuple(map(table.number, (-4, 5, 10))), (given[0], None)))

    def test_apply_is_make(self):
        table = Terms()
        exprs = [load(0, form(k)) for k in range(3)]
        for kind, many, info in (("add", 2, ()), ("mul", 2, ()), ("neg", 1, ()), ("clamp", 1, (-2, 3)), ("shift", 1, (2,)),
                                 ("where", 3, ()), ("less", 2, ()), ("equal", 2, ()), ("max", 2, ()), ("sub", 2, ())):
            given, rows = words(table, put(1, ZERO, apply(kind, *exprs[:many], info=info)))
            self.assertEqual(rows[1], (table.make(kind, given[:many], info), None, None))

    def test_pick_is_a_clamp_and_a_pick(self):
        table = Terms()
        given, rows = words(table, put(1, ZERO, pick(0, form(2), -1, 3, load(0))))
        index = table.make("clamp", (given[0],), (0, 2))
        self.assertEqual(rows[1][0], table.pick(given[::-1], index))
        given, rows = words(table, put(1, ZERO, pick(0, ZERO, 1, 3, num(9))), put(1, form(1), pick(0, ZERO, 2, 1, load(0))))
        self.assertEqual(rows[1], (given[2], given[0], None))

    def test_guard_and_when(self):
        table = Terms()
        bad = load(2)
        given, rows = words(
            table, put(1, ZERO, guard(ZERO, load(0), bad)), put(1, form(1), guard(form(-1), bad, num(7))),
            when(form(-1), put(1, ZERO, bad)))
        self.assertEqual(rows[1], (given[0], table.number(7), None))

    def test_values_of_the_terms_are_the_words(self):
        for seed in range(120):
            program = random_program(seed)
            table = Terms()
            sizes = [size for role, size in program[0] if role == "in"]
            free = tuple(tuple(table.variable((k, e), -50, 50) for e in range(size)) for k, size in enumerate(sizes))
            rows = program_terms(table, program, free)
            for turn in range(3):
                given = given_for(program, turn)
                values = {(k, e): n for k, row in enumerate(given) for e, n in enumerate(row)}
                told = tuple(tuple(None if t is None else table.value(t, values) for t in row) for row in rows)
                self.assertEqual(told, run_program(program, given))


class Errors(unittest.TestCase):
    def test_of_the_program_and_the_feeds(self):
        self.assertIs(error(put(0, ZERO, num(1)), given=()), FormError)
        self.assertIs(error(loop(0, 0, 1, 0, put(1, ZERO, num(1))), given=()), RangeError)
        self.assertIs(error(*[put(1, ZERO, num(1))] * 10001, given=()), TooLarge)
        for given in ((), ((0, 0),), ((0, 0, 0), (0,))):
            self.assertIs(error(put(1, ZERO, load(2)), given=given), FeedError)

    def test_words(self):
        self.assertIs(error(put(1, ZERO, load(2))), UnsetWord)
        self.assertIs(error(put(1, ZERO, load(0, form(3)))), RangeError)
        self.assertIs(error(put(1, form(3), num(1))), RangeError)
        self.assertIs(error(put(1, form(3), load(2))), UnsetWord)
        self.assertIs(error(copy(1, form(2), 2, ZERO, 2)), RangeError)
        self.assertIs(error(copy(1, ZERO, 2, ZERO, 2)), UnsetWord)

    def test_picks_read_all_words(self):
        """Also those that the index cannot mean, one after the other."""
        first = put(2, ZERO, num(1))
        self.assertIs(error(first, put(1, ZERO, pick(2, ZERO, 1, 2, num(0)))), UnsetWord)
        self.assertIs(error(put(1, ZERO, pick(0, ZERO, 1, 4, num(0)))), RangeError)
        self.assertIs(error(first, put(1, ZERO, pick(2, ZERO, 1, 3, num(0)))), UnsetWord)
        self.assertIs(error(first, put(1, ZERO, pick(2, form(1), 1, 3, num(0)))), UnsetWord)
        self.assertIs(error(put(1, ZERO, pick(2, form(2), -1, 3, num(0)))), RangeError)
        self.assertIs(error(put(1, ZERO, pick(2, form(2), -1, 3, load(2)))), UnsetWord)

    def test_too_wide(self):
        """A table raises it by intervals: for one that may be wide, not only for one that is."""
        a = load(0)
        deep = a
        for _ in range(7):
            deep = apply("mul", deep, deep)
        self.assertIs(error(put(1, ZERO, deep), low=0, high=1 << 157), TooWide)
        self.assertIs(error(put(1, ZERO, deep), low=-(1 << 157), high=0), TooWide)
        self.assertIsNone(error(put(1, ZERO, deep), low=0, high=1 << 156))
        self.assertIsNone(error(put(1, ZERO, guard(ZERO, a, deep)), low=0, high=1 << 157))
        self.assertIs(error(put(1, form(5), deep), low=0, high=1 << 157), TooWide)


class Widest(unittest.TestCase):
    """The greatest values of point 502, and one beyond them."""

    def test_ends_of_intervals(self):
        top = 1 << 20000
        table = Terms()
        wide, low, full = table.variable((0,), 0, top), table.variable((1,), -top, 0), table.variable((2,), -top, top)
        for expr, expected in (
                (load(0), None), (apply("neg", load(0)), None), (apply("neg", load(0, form(1))), None), (apply("neg", load(0, form(2))), None),
                (apply("add", load(0), num(1)), TooWide), (apply("sub", load(0, form(1)), num(1)), TooWide),
                (apply("add", load(0, form(1)), num(1)), None), (apply("add", load(0), load(0, form(1))), None),
                (apply("sub", load(0), load(0, form(1))), TooWide), (apply("max", load(0), load(0, form(2))), None),
                (apply("mul", load(0, form(2)), num(2)), TooWide), (apply("shift", load(0), info=(1,)), None)):
            given = ((wide, low, full),)
            self.assertIs(error_of(program_terms, table, (BUFFERS, (put(1, ZERO, expr),)), given), expected, expr)


A = (("in", 2), ("main", 2))


def program(*body, buffers=A):
    return (buffers, body)


ONE = program(put(1, ZERO, apply("add", load(0), load(0, form(1)))))


class Agree(unittest.TestCase):
    def test_programs_that_agree(self):
        others = (
            put(1, ZERO, apply("add", load(0, form(1)), load(0))),
            put(1, ZERO, apply("sub", load(0), apply("neg", load(0, form(1))))))
        for body in others:
            self.assertIs(agree(ONE, program(body)), True)
            self.assertIs(agree(program(body), ONE), True)
        loops = program(put(1, ZERO, num(0)), loop(0, 0, 1, 2, put(1, ZERO, apply("add", load(1), load(0, var(0))))))
        self.assertIs(agree(ONE, loops), True)
        self.assertIs(agree(((), ()), ((), ())), True)

    def test_near_buffers_do_not_count(self):
        near = (("near", 5), ("in", 2), ("near", 2), ("main", 2))
        body = (copy(2, ZERO, 1, ZERO, 2), put(3, ZERO, apply("add", load(2), load(2, form(1)))), put(0, form(4), num(9)))
        self.assertIs(agree(ONE, (near, body)), True)

    def test_one_word_differs(self):
        for body in (
                put(1, ZERO, apply("add", load(0), load(0))), put(1, form(1), apply("add", load(0), load(0, form(1)))),
                put(1, ZERO, apply("add", load(0), apply("add", load(0, form(1)), num(1))))):
            self.assertIs(agree(ONE, program(body)), False)

    def test_unset_words_differ(self):
        more = program(ONE[1][0], put(1, form(1), num(0)))
        self.assertIs(agree(ONE, more), False)
        self.assertIs(agree(more, ONE), False)
        self.assertIs(agree(program(), ONE), False)

    def test_buffers_differ(self):
        body = ONE[1]
        for buffers in (
                (("in", 2), ("main", 3)), (("in", 3), ("main", 2)), (("in", 2), ("main", 2), ("main", 1)),
                (("in", 2), ("main", 2), ("in", 1))):
            self.assertIs(agree(ONE, (buffers, body)), False)
        turned = (("main", 2), ("in", 2))
        self.assertIs(agree(ONE, (turned, (put(0, ZERO, apply("add", load(1), load(1, form(1)))),))), False)

    def test_words_that_are_the_same_only_in_an_interval(self):
        """The given words are from -2^200 to 2^200, so a clamp to these ends does nothing."""
        wide = 1 << 200
        body = put(1, ZERO, load(0))
        self.assertIs(agree(program(body), program(put(1, ZERO, apply("clamp", load(0), info=(-wide, wide))))), True)
        self.assertIs(agree(program(body), program(put(1, ZERO, apply("clamp", load(0), info=(-wide + 1, wide))))), False)
        self.assertIs(agree(program(body), program(put(1, ZERO, apply("clamp", load(0), info=(-wide, wide - 1))))), False)

    def test_numbers_of_given_buffers(self):
        """The k-th buffer with the role in has the key k, so it matters which is which."""
        two = (("in", 1), ("main", 1), ("in", 1))
        self.assertIs(agree((two, (put(1, ZERO, load(0)),)), (two, (put(1, ZERO, load(2)),))), False)
        self.assertIs(agree((two, (put(1, ZERO, load(2)),)), (two, (put(1, ZERO, load(2)),))), True)

    def test_errors(self):
        unset = program(put(1, ZERO, load(1)))
        outside = program(put(1, ZERO, load(0, form(2))))
        shape = program(put(0, ZERO, num(1)))
        for first, second, expected in (
                (unset, outside, UnsetWord), (outside, unset, RangeError), (ONE, unset, UnsetWord),
                (unset, ONE, UnsetWord), (unset, shape, UnsetWord), (shape, unset, FormError),
                ((A + (("main", 1),), unset[1]), ONE, UnsetWord), (ONE, (A + (("in", 1),), outside[1]), RangeError)):
            self.assertIs(error_of(agree, first, second), expected)

    def test_random_programs_agree_with_themselves(self):
        for seed in range(40):
            program = random_program(seed)
            other = random_program(seed + 1000)
            self.assertIs(agree(program, program), True)
            if [b for b in program[0] if b[0] != "near"] != [b for b in other[0] if b[0] != "near"]:
                self.assertIs(agree(program, other), False)
