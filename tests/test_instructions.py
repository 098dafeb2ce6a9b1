"""Points 802 and 803: instructions and the three looks of check_code."""

import unittest

from tensorworks.errors import FormError, MachineError, RangeError, TooLarge
from tensorworks.instructions import check_code
from tests.helpers import error_of

MACHINE = (32, 64, 64, 2, 4)
TOP = (1 << 31) - 1
LOW = -(1 << 31)
LOOP, END = ("loop", 0, 0, 1, 2), ("end",)
SET = ("set", 0, 0)

# One of each form.
FORMS = (
    ("set", 1, 5), ("do", "add", 1, (2, 3), ()), ("do", "neg", 1, (2,), ()), ("do", "clamp", 1, (2,), (-1, 1)),
    ("do", "shift", 1, (2,), (3,)), ("do", "where", 1, (2, 3, 4), ()), ("load", 1, 2, 3), ("store", 1, 2, 3),
    ("mac", 1, 2, 3, 4, 5, 2), ("vector", "mul", 1, 2, 3, 4), ("loop", 1, 0, 1, 5), ("end",), ("skip", 1, 0),
    ("in", 0, 1, 2, 3, 4, 5), ("out", 1, 1, 2, 3, 4, 5), ("wait", 0),
)


def error(*code, machine=MACHINE):
    return error_of(check_code, machine, code)


def nested(many, *inner):
    return (LOOP,) * many + inner + (END,) * many


def replaced(instruction, at, field):
    return instruction[:at] + (field,) + instruction[at + 1:]


class Form(unittest.TestCase):
    def test_each_form(self):
        self.assertIsNone(check_code(MACHINE, FORMS))
        self.assertIsNone(check_code(MACHINE, ()))

    def test_numbers_of_fields(self):
        for instruction in FORMS:
            behind = (END,) if instruction[0] == "loop" else ()
            before = (LOOP,) if instruction[0] == "end" else ()
            self.assertIsNone(error(*before, instruction, *behind))
            self.assertIs(error(*before, instruction + (0,), *behind), FormError)
            if len(instruction) > 1:
                self.assertIs(error(*before, instruction[:-1], *behind), FormError)
        self.assertIs(error(()), FormError)

    def test_unknown(self):
        for instruction in (("jump", 1), ("SET", 0, 0), ("", 0, 0), (0, 0, 0), ("do", "sum", 0, (1,), ("k",)), ("do", "dot", 0, (1, 2), ()),
                            ("do", "none", 0, (1,), ()), ("vector", "none", 0, 0, 0, 1), ("vector", "order", 0, 0, 0, 1)):
            self.assertIs(error(instruction), FormError)

    def test_kinds_of_fields(self):
        for instruction in (("set", "0", 0), ("set", 0, (0,)), ("do", "neg", 0, 1, ()), ("do", "neg", 0, (1,), 0), ("do", "neg", 0, ("1",), ()),
                            ("do", 7, 0, (1,), ()), ("wait", "q"), ("skip", 0, ())):
            self.assertIs(error(instruction), FormError)

    def test_sources_and_fields_of_do(self):
        for kind, sources, info in (
                ("neg", (), ()), ("neg", (1, 2), ()), ("add", (1,), ()), ("add", (1, 2, 3), ()), ("where", (1, 2), ()),
                ("clamp", (1,), (1,)), ("clamp", (1,), (1, 2, 3)), ("shift", (1,), ()), ("neg", (1,), (1,))):
            self.assertIs(error(("do", kind, 0, sources, info)), FormError)

    def test_kinds_of_vector(self):
        for kind in ("add", "sub", "mul", "max", "min", "less", "equal"):
            self.assertIsNone(error(("vector", kind, 0, 0, 0, 1)))
        for kind in ("neg", "clamp", "shift", "where"):
            self.assertIs(error(("vector", kind, 0, 0, 0, 1)), FormError)

    def test_loops_and_ends(self):
        for code in ((END,), (LOOP,), (LOOP, END, END), (END, LOOP), (LOOP, LOOP, END), (SET, LOOP, SET)):
            self.assertIs(error(*code), FormError)
        for code in ((LOOP, END), (LOOP, LOOP, END, END), (LOOP, END, LOOP, END)):
            self.assertIsNone(error(*code))

    def test_skips(self):
        """Over ends and loops, and up to the end of the code."""
        skip = [("skip", 0, count) for count in range(9)]
        good = (
            (skip[0],), (SET, skip[0]), (skip[1], SET), (skip[2], LOOP, END), (skip[3], LOOP, SET, END, SET), (LOOP, skip[0], END),
            (LOOP, skip[1], SET, END), (LOOP, skip[2], LOOP, END, SET, END), (LOOP, skip[3], SET, LOOP, END, END),
            (skip[4], LOOP, LOOP, END, END), (skip[4], LOOP, END, LOOP, END), (LOOP, SET, END, skip[1], SET),
            (("skip", 5, 4), LOOP, skip[1], SET, END))
        bad = (
            (skip[1],), (skip[2], SET), (LOOP, skip[1], END), (LOOP, SET, skip[2], SET, END), (skip[1], LOOP, END), (skip[2], SET, LOOP, END),
            (LOOP, skip[2], END, SET), (LOOP, skip[2], END, LOOP, END), (LOOP, skip[4], END, LOOP, SET, END), (skip[3], LOOP, LOOP, END, END),
            (LOOP, LOOP, skip[2], END, END), (LOOP, LOOP, skip[1], END, END), (LOOP, LOOP, skip[4], END, END, LOOP, LOOP, END, END),
            (LOOP, skip[2], LOOP, SET, END, END))
        for code in good:
            self.assertIsNone(error(*code), code)
        for code in bad:
            self.assertIs(error(*code), FormError, code)

    def test_negative_counts_skip_nothing(self):
        self.assertIs(error(("skip", 0, -1)), RangeError)
        self.assertIs(error(LOOP, ("skip", 0, -5), END), RangeError)
        self.assertIs(error(SET, LOOP, ("skip", 0, -2), END), RangeError)
        self.assertIs(error(LOOP, SET, END, ("skip", 0, -2)), RangeError)
        self.assertIs(error(("skip", 0, 4000001)), FormError)


class Range(unittest.TestCase):
    def edges(self, instruction, at, low, high):
        """The field at an index can be from low to high."""
        behind = (END,) if instruction[0] == "loop" else ()
        for n, expected in ((low, None), (high, None), (low - 1, RangeError), (high + 1, RangeError)):
            self.assertIs(error(replaced(instruction, at, n), *behind), expected, (instruction, at, n))

    def test_slots(self):
        for instruction, places in (
                (("set", 1, 5), (1,)), (("load", 1, 2, 3), (1, 2)), (("store", 1, 2, 3), (1, 3)), (("mac", 1, 2, 3, 4, 5, 2), (1, 2, 4)),
                (("vector", "mul", 1, 2, 3, 4), (2, 3, 4)), (("loop", 1, 0, 1, 5), (1,)), (("skip", 1, 0), (1,)),
                (("in", 0, 1, 2, 3, 4, 5), (2, 4)), (("out", 0, 1, 2, 3, 4, 5), (2, 4)), (("do", "add", 1, (2, 3), ()), (2,))):
            for at in places:
                self.edges(instruction, at, 0, 31)
        for n, expected in ((0, None), (31, None), (-1, RangeError), (32, RangeError)):
            self.assertIs(error(("do", "add", 1, (2, n), ())), expected)
            self.assertIs(error(("do", "where", 1, (n, 3, 0), ())), expected)

    def test_queues(self):
        for queues in range(1, 5):
            machine = MACHINE[:3] + (queues, 4)
            for instruction in (("in", 0, 1, 2, 3, 4, 5), ("out", 0, 1, 2, 3, 4, 5), ("wait", 0)):
                for n, expected in ((0, None), (queues - 1, None), (queues, RangeError), (-1, RangeError)):
                    self.assertIs(error(replaced(instruction, 1, n), machine=machine), expected)

    def test_numbers_of_set(self):
        self.edges(("set", 1, 0), 2, LOW, TOP)
        wide = (256,) + MACHINE[1:]
        for n, expected in (((1 << 255) - 1, None), (1 << 255, RangeError), (-(1 << 255), None), (-(1 << 255) - 1, RangeError)):
            self.assertIs(error(("set", 1, n), machine=wide), expected)

    def test_fields_of_do(self):
        for info, expected in (
                ((1, 1), None), ((2, 1), RangeError), ((LOW, TOP), None), ((LOW - 1, 0), RangeError), ((0, TOP + 1), RangeError)):
            self.assertIs(error(("do", "clamp", 0, (1,), info)), expected)
        for n, expected in ((1, None), (30, None), (0, RangeError), (31, RangeError)):
            self.assertIs(error(("do", "shift", 0, (1,), (n,))), expected)
        wide, bound = (256,) + MACHINE[1:], 1 << 200
        for info, expected in (((-bound, bound), None), ((-bound - 1, 0), RangeError), ((0, bound + 1), RangeError)):
            self.assertIs(error(("do", "clamp", 0, (1,), info), machine=wide), expected)

    def test_offsets_and_strides(self):
        for instruction, places in (
                (("load", 1, 2, 3), (3,)), (("store", 1, 2, 3), (2,)), (("mac", 1, 2, 3, 4, 5, 2), (3, 5)),
                (("in", 0, 1, 2, 3, 4, 5), (3, 5)), (("out", 0, 1, 2, 3, 4, 5), (3, 5))):
            for at in places:
                self.edges(instruction, at, -16384, 16384)

    def test_counts(self):
        for lanes in (1, 4, 16):
            machine = MACHINE[:4] + (lanes,)
            for instruction in (("mac", 1, 2, 3, 4, 5, 2), ("vector", "mul", 1, 2, 3, 4)):
                for n, expected in ((1, None), (lanes, None), (0, RangeError), (lanes + 1, RangeError)):
                    at = len(instruction) - 1
                    self.assertIs(error(replaced(instruction, at, n), machine=machine), expected)
        self.edges(("in", 0, 1, 2, 3, 4, 5), 6, 1, 4096)
        self.edges(("out", 0, 1, 2, 3, 4, 5), 6, 1, 4096)
        self.edges(("loop", 1, 0, 0, 5), 4, 1, 1000)

    def test_skip(self):
        self.assertIs(error(("skip", 0, 1)), FormError)
        self.assertIsNone(error(("skip", 0, 3999999), *[SET] * 3999999))
        self.assertIs(error(("skip", 0, 4000001), *[SET] * 4000001), RangeError)

    def test_numbers_of_loops(self):
        far = 1 << 32
        for start, step, count, expected in (
                (LOW, 0, 1, None), (TOP, 0, 1000, None), (LOW - 1, 0, 1, RangeError), (TOP + 1, 0, 1, RangeError),
                (LOW, far - 1, 2, None), (LOW, far, 2, RangeError), (TOP, 1 - far, 2, None), (TOP, -far, 2, RangeError),
                (TOP + 1, -1, 2, RangeError), (LOW - 1, 1, 2, RangeError), (TOP + 5, -far, 2, RangeError), (0, far, 1, None), (0, -far, 1, None), (0, far + 1, 1, RangeError), (0, -far - 1, 1, RangeError),
                (TOP - 999, 1, 1000, None), (TOP - 998, 1, 1000, RangeError), (LOW + 999, -1, 1000, None), (LOW + 998, -1, 1000, RangeError)):
            self.assertIs(error(("loop", 0, start, step, count), END), expected, (start, step, count))


class Size(unittest.TestCase):
    def test_instructions(self):
        self.assertIsNone(error(*[SET] * 4000000))
        self.assertIs(error(*[SET] * 4000001), TooLarge)

    def test_loops_around(self):
        self.assertIsNone(error(*nested(16, SET)))
        self.assertIsNone(error(*nested(17)))
        self.assertIs(error(*nested(17, SET)), TooLarge)
        self.assertIs(error(*nested(18)), TooLarge)
        self.assertIs(error(*nested(16, SET, *LOOP_SET)), TooLarge)
        self.assertIsNone(error(*nested(15, SET, *LOOP_SET)))
        self.assertIs(error(*nested(4000)), TooLarge)

    def test_steps(self):
        """1 + 1000 (1 + 1000 (1 + 1000 + ..)): a loop each time that it begins, an end each turn."""
        long = ("loop", 0, 0, 0, 1000)
        inner = [SET] * 996
        self.assertIsNone(error(long, long, *inner, END, END))
        steps = 1 + 1000 * (1 + 1000 * 997 + 1)
        self.assertIsNone(error(long, long, *inner, END, END, *[SET] * (1000000000 - steps)))
        self.assertIs(error(long, long, *inner, END, END, *[SET] * (1000000001 - steps)), TooLarge)
        self.assertIs(error(long, long, long, SET, END, END, END), TooLarge)
        self.assertIs(error(long, long, ("skip", 0, 1000), *[SET] * 1000, END, END), TooLarge)
        self.assertIs(error(*(long,) * 16, *(END,) * 16), TooLarge)


LOOP_SET = (LOOP, SET, END)


class Looks(unittest.TestCase):
    WRONG = ((("set", 0),), (("set", 32, 0),), nested(18))

    def test_two_looks_at_once(self):
        errors = (FormError, RangeError, TooLarge)
        for first in range(3):
            for second in range(3):
                expected = errors[min(first, second)]
                self.assertIs(error(*self.WRONG[first], *self.WRONG[second]), expected)
                self.assertIs(error(LOOP, *self.WRONG[first], END, SET, *self.WRONG[second]), expected)

    def test_in_one_instruction(self):
        self.assertIs(error(("do", "neg", 99, (1, 2), ())), FormError)
        self.assertIs(error(("loop", 99, 0, 1, 2000)), FormError)
        self.assertIs(error(("set", 99, 0), ("skip", 0, 1)), FormError)
        self.assertIs(error(("set", 99, 0), *[SET] * 4000000), RangeError)

    def test_machine_first(self):
        self.assertIs(error(("set", 0), machine=(31, 64, 64, 2, 4)), MachineError)
