"""Points 601 to 603: the three looks of check_program."""

import unittest

from tensorworks.errors import FormError, RangeError, TooLarge
from tensorworks.loops import check_program
from tests.helpers import error_of
from tests.programs import ZERO, apply, copy, deep, form, guard, load, loop, num, pick, put, random_program, var, when

BUFFERS = (("in", 8), ("main", 8), ("near", 8), ("main", 4096))
WIDE = 1 << 200


def error(*body, buffers=BUFFERS):
    return error_of(check_program, (buffers, body))


def worth_error(expr):
    return error(put(1, ZERO, expr))


def nested(statement, levels, kind="when"):
    """Return a statement with so many statements around it."""
    for at in range(levels):
        statement = when(ZERO, statement) if kind == "when" else loop(at, 0, 1, 1, statement)
    return statement


PUT = put(1, ZERO, num(1))

FORM_BODIES = {
    "statement": (("jump", 1),),
    "empty statement": ((),),
    "empty expression": (put(1, ZERO, ()),),
    "empty expression inside": (put(1, ZERO, apply("neg", ())),),
    "statement with too few fields": (("put", 1, ZERO),),
    "statement with too many fields": (("when", ZERO, (PUT,), (PUT,)),),
    "expression": (put(1, ZERO, ("variable", 0)),),
    "expression inside": (put(1, ZERO, apply("neg", ("word", 1))),),
    "kind": (put(1, ZERO, apply("negate", num(1))),),
    "reducing kind": (put(1, ZERO, apply("sum", num(1), info=("k",))),),
    "moving kind": (put(1, ZERO, apply("order", num(1), info=("",))),),
    "buffer of put": (put(4, ZERO, num(1)),),
    "negative buffer of put": (put(-1, ZERO, num(1)),),
    "buffer of load": (put(1, ZERO, load(4)),),
    "negative buffer of load": (put(1, ZERO, load(-1)),),
    "buffer of pick": (put(1, ZERO, pick(4, ZERO, 1, 2, num(0))),),
    "buffer of copy": (copy(4, ZERO, 0, ZERO, 1),),
    "source of copy": (copy(2, ZERO, 4, ZERO, 1),),
    "negative source of copy": (copy(2, ZERO, -1, ZERO, 1),),
    "put to in": (put(0, ZERO, num(1)),),
    "copy to in": (copy(0, ZERO, 2, ZERO, 1),),
    "copy of two near": (copy(2, ZERO, 2, ZERO, 1),),
    "copy without near": (copy(1, ZERO, 0, ZERO, 1),),
    "copy of two main": (copy(1, ZERO, 3, ZERO, 1),),
    "empty loop": (loop(0, 0, 1, 2),),
    "empty when": (when(ZERO),),
    "empty loop inside": (when(ZERO, loop(0, 0, 1, 2)),),
    "same variable": (loop(0, 0, 1, 2, loop(0, 0, 1, 2, PUT)),),
    "same variable further out": (loop(0, 0, 1, 2, when(ZERO, loop(1, 0, 1, 2, loop(0, 0, 1, 2, PUT)))),),
    "variables descend": (loop(0, 0, 1, 2, loop(1, 0, 1, 2, put(1, form(0, (1, 1), (0, 1)), num(1)))),),
    "variable twice": (loop(0, 0, 1, 2, put(1, form(0, (0, 1), (0, 1)), num(1))),),
    "no such variable": (put(1, var(0), num(1)),),
    "variable of a loop before": (loop(0, 0, 1, 2, PUT), put(1, var(0), num(1))),
    "variable of a loop inside": (when(var(0), loop(0, 0, 1, 2, PUT)),),
    "factor 0": (loop(0, 0, 1, 2, put(1, var(0, 0), num(1))),),
    "form of when": (when(var(0), PUT),),
    "form of index": (put(1, ZERO, ("index", var(0))),),
    "form of load": (put(1, ZERO, load(0, var(0))),),
    "form of pick": (put(1, ZERO, pick(0, var(0), 1, 2, num(0))),),
    "form of guard": (put(1, ZERO, guard(var(0), num(0), num(1))),),
    "form of a target": (copy(2, var(0), 0, ZERO, 1),),
    "form of a source": (copy(2, ZERO, 0, var(0), 1),),
    "too few expressions": (put(1, ZERO, apply("add", num(1))),),
    "too many expressions": (put(1, ZERO, apply("neg", num(1), num(2))),),
    "too few fields": (put(1, ZERO, apply("clamp", num(1), info=(1,))),),
    "too many fields": (put(1, ZERO, apply("neg", num(1), info=(1,))),),
    "in the index of a pick": (put(1, ZERO, pick(0, ZERO, 1, 2, load(9))),),
    "in a guard": (put(1, ZERO, guard(ZERO, load(9), num(1))),),
    "in the other side of a guard": (put(1, ZERO, guard(ZERO, num(1), load(9))),),
}
RANGE_BODIES = {
    "variable": (loop(-1, 0, 1, 2, PUT),),
    "variable in a form": (loop(-1, 0, 1, 2, put(1, var(-1), num(1))),),
    "variables in a form": (loop(-1, 0, 1, 2, loop(-2, 0, 1, 2, put(1, form(0, (-2, 1), (-1, 1)), num(1)))),),
    "count 0": (loop(0, 0, 1, 0, PUT),),
    "count 1001": (loop(0, 0, 0, 1001, PUT),),
    "first value": (loop(0, 1001, -1, 2, PUT),),
    "low first value": (loop(0, -1001, 1, 2, PUT),),
    "last value": (loop(0, 1, 1, 1001, PUT),),
    "value over": (loop(0, 0, 501, 3, PUT),),
    "value under": (loop(0, 0, -501, 3, PUT),),
    "base": (put(1, form(4097), num(1)),),
    "low base": (put(1, form(-4097), num(1)),),
    "factor": (loop(0, 0, 1, 2, put(1, var(0, 4097), num(1))),),
    "low factor": (loop(0, 0, 1, 2, put(1, var(0, -4097), num(1))),),
    "base of when": (when(form(4097), PUT),),
    "base of a target": (copy(2, form(4097), 0, ZERO, 1),),
    "base of a source": (copy(2, ZERO, 0, form(-4097), 1),),
    "base of index": (put(1, ZERO, ("index", form(4097))),),
    "base of load": (put(1, ZERO, load(0, form(4097))),),
    "base of pick": (put(1, ZERO, pick(0, form(4097), 1, 1, num(0))),),
    "base of guard": (put(1, ZERO, guard(form(4097), num(0), num(0))),),
    "count of copy 0": (copy(2, ZERO, 0, ZERO, 0),),
    "count of copy 4097": (copy(2, ZERO, 0, ZERO, 4097),),
    "count of pick 0": (put(1, ZERO, pick(0, ZERO, 1, 0, num(0))),),
    "count of pick 17": (put(1, ZERO, pick(0, ZERO, 1, 17, num(0))),),
    "stride": (put(1, ZERO, pick(0, ZERO, 4097, 1, num(0))),),
    "low stride": (put(1, ZERO, pick(0, ZERO, -4097, 1, num(0))),),
    "clamp": (put(1, ZERO, apply("clamp", num(1), info=(3, 2))),),
    "clamp low": (put(1, ZERO, apply("clamp", num(1), info=(-WIDE - 1, 2))),),
    "clamp high": (put(1, ZERO, apply("clamp", num(1), info=(1, WIDE + 1))),),
    "shift 0": (put(1, ZERO, apply("shift", num(1), info=(0,))),),
    "shift 31": (put(1, ZERO, apply("shift", num(1), info=(31,))),),
    "number": (put(1, ZERO, num(WIDE + 1)),),
    "low number": (put(1, ZERO, num(-WIDE - 1)),),
    "inside an apply": (put(1, ZERO, apply("neg", num(WIDE + 1))),),
    "inside a pick": (put(1, ZERO, pick(0, ZERO, 1, 2, num(WIDE + 1))),),
    "inside a guard": (put(1, ZERO, guard(ZERO, num(0), num(WIDE + 1))),),
}
LARGE_BODIES = {
    "statements": (PUT,) * 20001,
    "statements inside": (loop(0, 0, 1, 1, *[copy(2, ZERO, 0, ZERO, 1)] * 20000),),
    "parts": (PUT,) * 10001,
    "parts inside": (put(1, ZERO, apply("add", num(1), num(2))),) * 3334,
    "loops": (nested(PUT, 9, "loop"),),
    "depth": (nested(PUT, 11),),
    "levels": (put(1, ZERO, deep(11)),),
    "levels of pick": (put(1, ZERO, pick(0, ZERO, 1, 2, deep(10))),),
    "levels of guard": (put(1, ZERO, guard(ZERO, num(1), deep(10))),),
    "steps": (loop(0, 0, 1, 1000, loop(1, 0, 1, 1000, put(1, ZERO, apply("add", num(1), num(2))))),),
    "steps of when": (loop(0, 0, 1, 1000, loop(1, 0, 1, 1000, when(form(-1), when(ZERO, PUT)))),),
}


class Valid(unittest.TestCase):
    def test_valid_programs(self):
        self.assertIsNone(error())
        self.assertIsNone(check_program(((), ())))
        for seed in range(60):
            self.assertIsNone(error_of(check_program, random_program(seed)))

    def test_variables_in_forms(self):
        body = loop(5, 0, 1, 2, loop(2, 0, 1, 2, put(1, form(0, (2, 1), (5, -1)), load(0, var(5)))))
        self.assertIsNone(error(body))
        self.assertIsNone(error(loop(0, 0, 1, 2, PUT), loop(0, 0, 1, 2, PUT)))
        self.assertIsNone(error(loop(10 ** 20, 0, 1, 2, put(1, var(10 ** 20), num(0)))))

    def test_copies_between_near_and_others(self):
        self.assertIsNone(error(copy(2, ZERO, 0, ZERO, 1), copy(2, ZERO, 1, ZERO, 1), copy(1, ZERO, 2, ZERO, 1)))


class Form(unittest.TestCase):
    def test_each(self):
        for name, body in FORM_BODIES.items():
            self.assertIs(error(*body), FormError, name)

    def test_roles(self):
        self.assertIs(error(buffers=(("far", 1),)), FormError)
        self.assertIs(error(buffers=BUFFERS + (("", 1),)), FormError)


class Range(unittest.TestCase):
    def test_each(self):
        for name, body in RANGE_BODIES.items():
            self.assertIs(error(*body), RangeError, name)

    def test_sizes_of_buffers(self):
        for size, expected in ((0, RangeError), (1, None), (4096, None), (4097, RangeError), (-1, RangeError)):
            self.assertIs(error(buffers=(("near", size),)), expected)

    def test_edges_within(self):
        for body in (
                loop(0, -1000, 2, 1000, PUT), loop(0, 1000, -2, 1000, PUT), loop(0, 0, 1000, 2, PUT),
                loop(0, 1000, 10 ** 9, 1, PUT), loop(0, 0, 0, 1000, PUT), when(form(4096), PUT), when(form(-4096), PUT),
                loop(0, 0, 1, 2, when(var(0, 4096), when(var(0, -4096), PUT))),
                copy(2, ZERO, 0, ZERO, 4096), put(1, ZERO, pick(0, ZERO, 4096, 16, num(0))),
                put(1, ZERO, pick(0, ZERO, -4096, 1, num(0))), put(1, ZERO, apply("clamp", num(0), info=(-WIDE, WIDE))),
                put(1, ZERO, apply("clamp", num(0), info=(2, 2))), put(1, ZERO, apply("shift", num(0), info=(1,))),
                put(1, ZERO, apply("shift", num(0), info=(30,))), put(1, ZERO, num(WIDE)), put(1, ZERO, num(-WIDE))):
            self.assertIsNone(error(body))


class Size(unittest.TestCase):
    def test_each(self):
        for name, body in LARGE_BODIES.items():
            self.assertIs(error(*body), TooLarge, name)

    def test_buffers(self):
        self.assertIsNone(error(buffers=(("near", 1),) * 1000))
        self.assertIs(error(buffers=(("near", 1),) * 1001), TooLarge)

    def test_edges_within(self):
        for body in (
                (copy(2, ZERO, 0, ZERO, 1),) * 20000, (loop(0, 0, 1, 1, *[copy(2, ZERO, 0, ZERO, 1)] * 19999),),
                (PUT,) * 10000, (put(1, ZERO, apply("add", num(1), num(2))),) * 3333, (nested(PUT, 8, "loop"),),
                (nested(PUT, 10),), (nested(nested(PUT, 8, "loop"), 2),), (put(1, ZERO, deep(10)),),
                (put(1, ZERO, pick(0, ZERO, 1, 2, deep(9))),), (put(1, ZERO, guard(ZERO, deep(9), num(1))),)):
            self.assertIsNone(error(*body))

    def test_steps(self):
        """A loop, its turns, a put with its parts and picks, a copy with its words, a when with its body."""
        inner = put(1, ZERO, pick(0, ZERO, 1, 5, num(1)))
        self.steps(1000 * (1 + 1000 * 3) + 1, loop(0, 0, 1, 1000, loop(1, 0, 1, 1000, when(form(-1), PUT))))
        self.steps(1000 * (1 + 400 * 8) + 1, loop(0, 0, 1, 1000, loop(1, 0, 1, 400, inner)))
        self.steps(1 + 900 * 4096, loop(0, 0, 1, 900, copy(3, ZERO, 2, ZERO, 4096)))
        self.steps(2 + 1000 * 3000, loop(0, 0, 1, 1000, copy(3, ZERO, 2, ZERO, 3000)), copy(2, ZERO, 3, ZERO, 1))

    def steps(self, many, *body):
        """The body has so many steps: with others up to the limit it is valid, with one more it is not."""
        left = 4000000 - many
        fill = [copy(2, ZERO, 0, ZERO, 4096)] * (left // 4096) + [copy(2, ZERO, 0, ZERO, max(1, left % 4096))]
        self.assertIsNone(error(*body, *fill))
        self.assertIs(error(*body, *fill, copy(2, ZERO, 0, ZERO, 1)), TooLarge)

    def test_statements_and_parts_of_all_kinds(self):
        """Levels, parts and steps are counted each on its own."""
        wide = num(1)
        for _ in range(9):
            wide = apply("add", wide, wide)
        self.assertIsNone(error(*[put(1, ZERO, wide)] * 9))
        self.assertIs(error(*[put(1, ZERO, wide)] * 10), TooLarge)
        picks = [put(1, ZERO, pick(0, ZERO, 1, 16, num(1)))] * 5000
        self.assertIsNone(error(*picks))
        self.assertIs(error(*picks, PUT), TooLarge)
        inner = [put(1, ZERO, apply("neg", pick(0, ZERO, 1, 16, num(1))))] * 3333
        self.assertIsNone(error(*inner, PUT))
        self.assertIs(error(*inner, PUT, PUT), TooLarge)
        copies = [copy(2, ZERO, 0, ZERO, 1)] * 9999
        self.assertIsNone(error(*[PUT] * 10000, *copies, copies[0]))
        self.assertIs(error(*[PUT] * 10000, *copies, loop(0, 0, 1, 2, copies[0])), TooLarge)

    def test_loops_are_no_statements_around_only(self):
        body = nested(PUT, 8, "loop")
        self.assertIs(error(loop(8, 0, 1, 1, body)), TooLarge)
        self.assertIs(error(when(ZERO, loop(8, 0, 1, 1, body))), TooLarge)


class Looks(unittest.TestCase):
    """The earlier look decides, wherever in the program the errors stand."""

    def test_two_looks_at_once(self):
        wrong = (FORM_BODIES["put to in"], RANGE_BODIES["base"], LARGE_BODIES["levels"])
        errors = (FormError, RangeError, TooLarge)
        for first in range(3):
            for second in range(3):
                expected = errors[min(first, second)]
                self.assertIs(error(*wrong[first], *wrong[second]), expected)
                self.assertIs(error(loop(7, 0, 1, 2, *wrong[first]), *wrong[second]), expected)
                self.assertIs(error(*wrong[first], when(ZERO, *wrong[second])), expected)

    def test_in_one_statement(self):
        self.assertIs(error(loop(-1, 0, 1, 0)), FormError)
        self.assertIs(worth_error(apply("clamp", num(WIDE + 1), num(1), info=(3, 2))), FormError)
        self.assertIs(worth_error(apply("add", num(WIDE + 1), load(9))), FormError)
        self.assertIs(worth_error(deep(12, num(WIDE + 1))), RangeError)
        self.assertIs(worth_error(deep(12, load(9))), FormError)

    def test_buffers_and_body(self):
        self.assertIs(error(put(1, ZERO, load(2000)), buffers=(("main", 0),) * 1001), FormError)
        self.assertIs(error(PUT, buffers=(("main", 0),) * 1001), RangeError)
        self.assertIs(error(*[PUT] * 10001, buffers=(("main", 1), ("far", 1))), FormError)
        self.assertIs(error(put(1, form(9999), num(1)), *[PUT] * 10001), RangeError)
