"""Points 808 and 809: the audit of code."""

import random
import unittest

from tensorworks.auditing import audit_code
from tensorworks.device import run_code
from tensorworks.errors import (
    AuditError, FeedError, FormError, MachineError, MayOverflow, NeverSet, Outside, Racing, RangeError, TooLarge, Unsettled)
from tensorworks.terms import Terms
from tests import naive_audit
from tests.codes import random_code, random_delays, random_words
from tests.helpers import error_of
from tests.test_instructions import nested

MACHINE = (32, 16, 16, 2, 4)
TOP, LOW = (1 << 31) - 1, -(1 << 31)


def memory(table, low=-9, high=9, many=8, size=16):
    """Return main memory: variables, and behind them words that are not set."""
    free = tuple(table.variable((k,), low, high) for k in range(many))
    return free + (None,) * (size - many)


def audit(*code, low=-9, high=9, table=None):
    table = Terms() if table is None else table
    return audit_code(table, MACHINE, code, memory(table, low, high))


def error(*code, low=-9, high=9):
    return error_of(lambda: audit(*code, low=low, high=high))


def fetch(n, m, count=1, q=0):
    return (("in", q, 0, n, 0, m, count), ("wait", q))


def give(n, m, count=1, q=0):
    return (("out", q, 0, n, 0, m, count), ("wait", q))


# The slot 2 holds a variable, the slot 3 the number 5 and the slots from 0 on 0.
FREE = fetch(0, 0) + (("load", 2, 0, 0), ("set", 3, 5))


class Results(unittest.TestCase):
    def test_no_code(self):
        table = Terms()
        self.assertEqual(audit(table=table), memory(table))

    def test_do_and_transfers(self):
        table = Terms()
        a, b = memory(table)[:2]
        code = fetch(0, 4, 2) + (("load", 1, 0, 4), ("load", 2, 0, 5), ("do", "sub", 3, (1, 2), ()), ("store", 0, 6, 3)) + give(9, 6)
        self.assertEqual(audit(*code, table=table)[8:11], (None, table.make("sub", (a, b), ()), None))

    def test_mac_and_vector(self):
        table = Terms()
        free = memory(table)
        code = fetch(0, 0, 6) + (("set", 1, 2), ("set", 3, 7), ("mac", 3, 0, 1, 1, 2, 2), ("store", 0, 8, 3), ("set", 1, 3), ("set", 2, 10),
                                 ("vector", "max", 2, 0, 1, 3)) + give(8, 8) + give(9, 10, 3)
        end = audit(*code, table=table)
        products = [table.make("mul", pair, ()) for pair in ((free[0], free[2]), (free[1], free[4]))]
        total = table.make("add", (table.number(7), table.make("add", products, ())), ())
        self.assertEqual(end[8:12], (total,) + tuple(table.make("max", (free[k], free[k + 3]), ()) for k in range(3)))

    def test_loops_and_skips(self):
        """Numbers that are worked out are addresses and conditions."""
        table = Terms()
        free = memory(table)
        code = fetch(0, 0, 6) + (
            ("set", 5, 1), ("loop", 1, 4, -1, 5), ("do", "sub", 2, (1, 6), ()), ("do", "sub", 2, (2, 5), ()), ("skip", 2, 2),
            ("load", 3, 2, 0), ("store", 1, 8, 3), ("end",)) + give(9, 9, 4)
        self.assertEqual(audit(*code, table=table)[8:13], (None,) + free[:4])

    def test_numbers_that_come_of_variables(self):
        """What is a number in its normal form is settled."""
        self.assertIsNone(error(*FREE, ("do", "sub", 4, (2, 2), ()), ("store", 4, 3, 2), ("skip", 4, 0), ("load", 4, 4, 3)))
        self.assertIsNone(error(*fetch(0, 0), ("load", 4, 0, 0), ("store", 4, 3, 4), low=6, high=6))

    def test_slots_are_0_at_the_start(self):
        table = Terms()
        self.assertEqual(audit(("store", 9, 0, 31), *give(8, 0), table=table)[8], table.number(0))

    def test_slots_that_are_set_again(self):
        """A slot that held a term and then a number, or the other way round, holds what it was set to last."""
        table = Terms()
        free = memory(table)
        code = fetch(0, 0, 2) + (("load", 2, 0, 0), ("store", 0, 4, 2), ("set", 2, 5), ("store", 0, 5, 2), ("load", 2, 0, 1),
                                 ("store", 0, 6, 2), ("do", "sub", 2, (2, 2), ()), ("store", 0, 7, 2), ("loop", 2, 3, 1, 2), ("store", 0, 8, 2),
                                 ("load", 2, 0, 0), ("end",), ("store", 0, 9, 2)) + give(8, 4, 6)
        self.assertEqual(audit(*code, table=table)[8:14], (free[0], table.number(5), free[1], table.number(0), table.number(4), free[0]))

    def test_more_queues_than_lanes(self):
        table = Terms()
        machine = (32, 16, 16, 4, 1)
        code = (("in", 3, 0, 0, 0, 0, 2), ("wait", 3), ("out", 2, 0, 8, 0, 0, 2))
        self.assertEqual(audit_code(table, machine, code, memory(table))[8:10], memory(table)[:2])

    def test_transfers_in_flight_at_the_end(self):
        table = Terms()
        self.assertEqual(audit(("set", 1, 3), ("store", 0, 0, 1), ("out", 0, 0, 8, 0, 0, 1), table=table)[8], table.number(3))


class Lanes(unittest.TestCase):
    """A load at an address that is not a number."""

    def end(self, table, low, high, *code):
        main = memory(table, -9, 9, 7)[:7] + (table.variable((7,), low, high),) + (None,) * 8
        fetched = fetch(0, 4, 7) + fetch(7, 15) + (("load", 2, 0, 15),)
        return audit_code(table, MACHINE, fetched + code + (("store", 0, 0, 9),) + give(8, 0), main)

    def test_pick(self):
        table = Terms()
        free = memory(table, -9, 9, 7)[:7]
        index = table.variable((7,), 0, 6)
        self.assertEqual(self.end(table, 0, 6, ("load", 9, 2, 4))[8], table.pick(free, index))

    def test_factors(self):
        for factor, low, high, n in ((2, 0, 3, 4), (-2, 0, 3, 10), (3, -1, 1, 7), (-1, -3, 3, 7), (1, 5, 7, 1), (-3, 0, 1, 9)):
            table = Terms()
            free = memory(table, -9, 9, 7)[:7]
            index = table.variable((7,), low, high)
            code = (("set", 3, factor), ("do", "mul", 3, (2, 3), ()), ("load", 9, 3, n))
            row = [free[n - 4 + factor * v] for v in range(low, high + 1)]
            up = table.make("sub", (index, table.number(low)), ())
            self.assertEqual(self.end(table, low, high, *code)[8], table.pick(tuple(row), up), (factor, low))

    def test_words_that_are_the_same(self):
        table = Terms()
        code = (("set", 3, 2), ("store", 0, 3, 3), ("store", 0, 2, 3), ("load", 9, 2, 2))
        self.assertEqual(self.end(table, 0, 1, *code)[8], table.number(2))

    def error(self, low, high, *code):
        return error_of(lambda: self.end(Terms(), low, high, *code))

    def test_outside(self):
        for low, high, n, expected in (
                (0, 3, 4, None), (-1, 3, 0, Outside), (0, 4, 12, Outside), (LOW, TOP, 4, Outside), (-1, 0, 0, Outside), (15, 16, 0, Outside)):
            self.assertIs(self.error(low, high, ("load", 9, 2, n)), expected)

    def test_outside_with_factors(self):
        """The first and the last word decide, whichever of both is the higher one."""
        for factor, n, expected in (
                (2, 4, None), (2, 9, NeverSet), (2, 10, Outside), (2, -1, Outside), (-2, 10, None), (-2, 6, NeverSet), (-2, 5, Outside),
                (-2, 16, Outside), (4, 3, NeverSet), (4, 4, Outside)):
            code = (("set", 3, factor), ("do", "mul", 3, (2, 3), ()), ("load", 9, 3, n))
            self.assertIs(self.error(0, 3, *code), expected, (factor, n))

    def test_never_set(self):
        self.assertIs(self.error(0, 3, ("load", 9, 2, 8)), NeverSet)
        self.assertIs(self.error(0, 3, ("load", 9, 2, 1)), NeverSet)
        code = (("set", 3, 2), ("do", "mul", 3, (2, 3), ()))
        self.assertIsNone(self.error(0, 1, ("store", 0, 12, 3), *code, ("load", 9, 3, 10)))
        self.assertIs(self.error(0, 1, ("store", 0, 13, 3), *code, ("load", 9, 3, 12)), NeverSet)

    def test_racing(self):
        code = (("in", 0, 0, 0, 0, 6, 1), ("load", 9, 2, 4))
        self.assertIs(self.error(0, 3, *code), Racing)
        self.assertIsNone(self.error(0, 1, *code))
        self.assertIs(self.error(0, 12, *code), Outside)
        self.assertIs(self.error(0, 8, *code), Racing)

    def test_wide_addresses(self):
        """Outside is raised without going through all that the address may be."""
        machine = (256, 16, 16, 1, 1)
        for low, high in ((-(1 << 255), (1 << 255) - 1), (0, 1 << 254), (-(1 << 254), 0)):
            table = Terms()
            main = (table.variable((0,), low, high),) + (None,) * 15
            code = fetch(0, 0) + (("load", 1, 0, 0), ("load", 1, 1, 0))
            self.assertIs(error_of(audit_code, table, machine, code, main), Outside)


class Errors(unittest.TestCase):
    def test_unsettled(self):
        for instruction in (
                ("skip", 2, 0), ("store", 2, 0, 3), ("mac", 9, 2, 0, 0, 0, 1), ("mac", 9, 0, 0, 2, 0, 1), ("vector", "add", 2, 0, 0, 1),
                ("vector", "add", 0, 2, 0, 1), ("vector", "add", 0, 0, 2, 1), ("in", 0, 2, 0, 0, 0, 1), ("in", 0, 0, 0, 2, 0, 1),
                ("out", 0, 2, 8, 0, 0, 1), ("out", 0, 0, 8, 2, 0, 1)):
            self.assertIs(error(*FREE, instruction), Unsettled, instruction)
        self.assertIsNone(error(*FREE, ("store", 3, 0, 2), ("mac", 2, 0, 0, 0, 0, 1), ("do", "neg", 9, (2,), ())))

    def test_outside(self):
        for instruction in (
                ("load", 1, 0, 16), ("load", 1, 0, -1), ("store", 0, 16, 1), ("store", 0, -1, 1), ("mac", 9, 3, 4, 0, 0, 4),
                ("mac", 9, 0, 0, 3, -6, 2), ("vector", "add", 4, 0, 0, 3), ("vector", "add", 0, 4, 0, 3), ("vector", "add", 0, 0, 4, 3),
                ("in", 0, 0, 14, 0, 0, 3), ("in", 0, 0, -1, 0, 0, 1), ("in", 0, 0, 0, 0, 14, 3), ("in", 0, 0, 0, 0, -1, 3),
                ("out", 0, 0, 14, 0, 0, 3), ("out", 0, 0, -1, 0, 0, 1), ("out", 0, 0, 8, 0, 14, 3), ("out", 0, 0, 8, 0, -1, 1)):
            self.assertIs(error(*FREE, ("set", 4, 14), instruction), Outside, instruction)

    def test_never_set(self):
        for instruction in (
                ("load", 1, 0, 1), ("mac", 9, 0, 1, 0, 0, 2), ("mac", 9, 0, 0, 0, 1, 2), ("vector", "add", 4, 0, 0, 2),
                ("vector", "add", 4, 0, 3, 1), ("vector", "add", 4, 3, 0, 1), ("in", 0, 0, 8, 0, 0, 1), ("in", 0, 0, 5, 0, 0, 4),
                ("out", 0, 0, 8, 0, 1, 1), ("out", 0, 0, 8, 0, 0, 2)):
            self.assertIs(error(*FREE, ("set", 4, 8), instruction), NeverSet, instruction)

    def test_a_transfer_of_words_that_are_not_set_yet(self):
        self.assertIs(error(*give(8, 3), ), NeverSet)
        self.assertIsNone(error(("store", 0, 3, 0), *give(8, 3), *fetch(8, 4), ("load", 1, 0, 4)))

    def test_may_overflow(self):
        for low, high, kind, expected in (
                (0, TOP, "neg", None), (LOW, 0, "neg", MayOverflow), (0, TOP // 2, "twice", None), (0, TOP // 2 + 1, "twice", MayOverflow),
                (LOW // 2, 0, "twice", None), (LOW // 2 - 1, 0, "twice", MayOverflow)):
            sources = (2,) if kind == "neg" else (2, 2)
            made = ("do", "neg" if kind == "neg" else "add", 9, sources, ())
            self.assertIs(error(*FREE, made, low=low, high=high), expected)

    def test_may_overflow_of_mac_and_vector(self):
        for n, expected in ((46340, None), (46341, MayOverflow)):
            self.assertIs(error(*FREE, ("mac", 9, 0, 0, 0, 0, 1), low=0, high=n), expected)
            self.assertIs(error(*FREE, ("vector", "mul", 4, 0, 0, 1), low=0, high=n), expected)
        self.assertIs(error(*FREE, ("mac", 9, 0, 0, 0, 0, 2), low=0, high=46340), MayOverflow)
        self.assertIs(error(*FREE, ("do", "neg", 9, (2,), ()), ("mac", 9, 0, 0, 0, 0, 1), low=0, high=46340), None)
        code = fetch(0, 0, 2) + (("set", 1, 1), ("store", 0, 1, 1), ("set", 4, 4), ("vector", "mul", 4, 0, 0, 2))
        self.assertIs(error(*code, low=0, high=46341), MayOverflow)

    def test_intervals_that_just_fit(self):
        for kind in ("max", "min"):
            self.assertIsNone(error(*FREE, ("do", kind, 9, (2, 3), ()), low=LOW, high=TOP))
            self.assertIsNone(error(*FREE, ("set", 4, 4), ("vector", kind, 4, 0, 0, 1), low=LOW, high=TOP))
        for n, low, high, expected in (
                (1, 0, TOP - 1, None), (1, 0, TOP, MayOverflow), (-1, LOW + 1, 0, None), (-1, LOW, 0, MayOverflow)):
            self.assertIs(error(*FREE, ("set", 3, n), ("do", "add", 9, (2, 3), ()), low=low, high=high), expected)

    def test_may_overflow_of_numbers(self):
        code = (("set", 1, TOP), ("set", 2, LOW), ("set", 5, 1), ("set", 6, -1))
        for kind, sources, expected in (
                ("sub", (1, 5), None), ("sub", (1, 6), MayOverflow), ("sub", (2, 5), MayOverflow), ("sub", (2, 6), None), ("max", (1, 2), None),
                ("min", (1, 2), None), ("sub", (6, 1), None), ("sub", (6, 2), None)):
            self.assertIs(error(*code, ("do", kind, 3, sources, ())), expected)
        for kind, sources, expected in (
                ("add", (1, 1), MayOverflow), ("neg", (2,), MayOverflow), ("mul", (1, 2), MayOverflow), ("add", (1, 2), None)):
            self.assertIs(error(*code, ("do", kind, 3, sources, ())), expected)

    def test_given_words(self):
        table = Terms()
        wide = table.variable((0,), 0, TOP + 1)
        narrow = table.variable((1,), LOW, TOP)
        for main, expected in (
                ((), FeedError), ((None,) * 15, FeedError), ((None,) * 17, FeedError), ((wide,) + (None,) * 15, FeedError),
                ((narrow,) * 16, None), ((None,) * 15 + (table.number(LOW - 1),), FeedError)):
            self.assertIs(error_of(audit_code, table, MACHINE, (), main), expected)

    def test_before_the_code(self):
        table = Terms()
        for code, expected in (((("set", 0),), FormError), ((("set", 32, 0),), RangeError), (nested(18), TooLarge)):
            self.assertIs(error_of(audit_code, table, MACHINE, code, ()), expected)
        self.assertIs(error_of(audit_code, table, (0,) + MACHINE[1:], (("set", 0),), ()), MachineError)
        self.assertIs(error_of(audit_code, table, MACHINE, (("load", 1, 0, 99),), ()), FeedError)


class Flight(unittest.TestCase):
    """Racing: what is done to words of transfers that are not waited for."""

    START = fetch(0, 0, 8) + (("set", 4, 4),)
    IN = (("in", 0, 0, 0, 0, 4, 2),)
    OUT = (("out", 0, 0, 8, 0, 4, 2),)

    def test_in(self):
        """Its target is near 4 and 5, its source main 0 and 1."""
        for instruction, expected in (
                (("load", 1, 0, 4), Racing), (("load", 1, 0, 5), Racing), (("load", 1, 0, 3), None), (("load", 1, 0, 6), None),
                (("store", 0, 4, 1), Racing), (("store", 0, 6, 1), None), (("mac", 9, 0, 5, 0, 0, 2), Racing), (("mac", 9, 0, 0, 0, 4, 2), Racing),
                (("mac", 9, 0, 3, 0, 6, 2), None), (("vector", "add", 4, 0, 0, 1), Racing), (("vector", "add", 0, 4, 0, 1), Racing),
                (("vector", "add", 0, 0, 4, 1), Racing), (("vector", "add", 0, 0, 0, 4), None), (("in", 0, 0, 3, 0, 4, 1), Racing),
                (("in", 1, 0, 3, 0, 3, 2), Racing), (("in", 1, 0, 0, 0, 6, 2), None), (("out", 0, 0, 8, 0, 5, 1), Racing),
                (("out", 1, 0, 0, 0, 6, 1), Racing), (("out", 1, 0, 1, 0, 6, 1), Racing), (("out", 1, 0, 2, 0, 6, 1), None)):
            self.assertIs(error(*self.START, *self.IN, instruction), expected, instruction)
            self.assertIsNone(error(*self.START, *self.IN, ("wait", 0), instruction))
            self.assertIs(error(*self.START, *self.IN, ("wait", 1), instruction), expected)

    def test_out(self):
        """Its target is main 8 and 9, its source near 4 and 5."""
        for instruction, expected in (
                (("load", 1, 0, 4), None), (("store", 0, 4, 1), Racing), (("store", 0, 5, 1), Racing), (("store", 0, 6, 1), None),
                (("mac", 9, 4, 1, 4, 1, 2), None), (("vector", "add", 4, 0, 0, 1), Racing), (("vector", "add", 0, 4, 4, 2), None),
                (("in", 0, 0, 0, 0, 5, 1), Racing), (("in", 1, 0, 8, 0, 6, 1), Racing), (("in", 1, 0, 0, 0, 6, 1), None),
                (("out", 0, 0, 9, 0, 0, 1), Racing), (("out", 1, 0, 7, 0, 0, 2), Racing), (("out", 1, 0, 10, 0, 4, 2), None)):
            self.assertIs(error(*self.START, *self.OUT, instruction), expected, instruction)
            self.assertIsNone(error(*self.START, *self.OUT, ("wait", 0), instruction))
            self.assertIs(error(*self.START, *self.OUT, ("wait", 1), instruction), expected)

    def test_several_transfers_of_one_source(self):
        """The word is free when all of them are waited for."""
        both = (("out", 0, 0, 8, 0, 4, 1), ("out", 1, 0, 9, 0, 4, 1))
        store = ("store", 0, 4, 1)
        self.assertIs(error(*self.START, *both, ("wait", 0), store), Racing)
        self.assertIs(error(*self.START, *both, ("wait", 1), store), Racing)
        self.assertIsNone(error(*self.START, *both, ("wait", 1), ("wait", 0), store))

    def test_sources_of_several_lengths(self):
        both = (("out", 0, 0, 8, 0, 4, 1), ("out", 1, 0, 9, 0, 4, 2))
        for first, second in ((0, 1), (1, 0)):
            self.assertIs(error(*self.START, *both, ("store", 0, 4, 1)), Racing)
            self.assertIs(error(*self.START, *both, ("wait", first), ("store", 0, 4, 1)), Racing)
            self.assertIsNone(error(*self.START, *both, ("wait", first), ("wait", second), ("store", 0, 4, 1)))

    def test_one_queue(self):
        """Two transfers in the same queue are in flight together, although they are carried out in order."""
        self.assertIs(error(*self.START, ("in", 0, 0, 0, 0, 4, 1), ("in", 0, 0, 1, 0, 4, 1)), Racing)
        self.assertIs(error(*self.START, ("out", 0, 0, 8, 0, 0, 1), ("in", 0, 0, 8, 0, 9, 1)), Racing)
        self.assertIsNone(error(*self.START, ("in", 0, 0, 0, 0, 4, 1), ("wait", 0), ("in", 0, 0, 1, 0, 4, 1)))

    def test_unset_words_stay_unset_in_flight(self):
        """A word that a transfer sets counts as set at once, but as racing until it is waited for."""
        self.assertIs(error(("in", 0, 0, 0, 0, 0, 1), ("load", 1, 0, 0)), Racing)
        self.assertIsNone(error(("in", 0, 0, 0, 0, 0, 1), ("wait", 0), ("load", 1, 0, 0)))


class Order(unittest.TestCase):
    """The errors of one instruction in the order of the list, each asked for all words before the next."""

    START = fetch(0, 0, 4) + (("load", 2, 0, 0), ("set", 4, 4), ("set", 5, 14), ("set", 6, 9), ("in", 0, 0, 0, 0, 4, 2))

    def check(self, expected, *code, low=-9, high=9):
        self.assertIs(error(*self.START, *code, low=low, high=high), expected)

    def test_unsettled_before_outside(self):
        self.check(Unsettled, ("vector", "add", 2, 5, 5, 4))
        self.check(Unsettled, ("vector", "add", 5, 5, 2, 4))
        self.check(Unsettled, ("mac", 9, 5, 4, 2, 0, 2))
        self.check(Unsettled, ("in", 0, 0, 99, 2, 0, 1))
        self.check(Unsettled, ("out", 0, 2, 0, 0, 99, 1))

    def test_outside_before_racing(self):
        self.check(Outside, ("vector", "add", 5, 4, 0, 4))
        self.check(Outside, ("vector", "add", 4, 0, 5, 4))
        self.check(Outside, ("mac", 9, 4, 1, 5, 1, 4))
        self.check(Outside, ("in", 0, 0, 14, 0, 4, 3))
        self.check(Outside, ("out", 0, 0, 15, 0, 4, 2))

    def test_racing_before_never_set(self):
        self.check(Racing, ("vector", "add", 4, 6, 0, 1))
        self.check(Racing, ("vector", "add", 0, 6, 4, 1))
        self.check(Racing, ("mac", 9, 6, 1, 4, 0, 1))
        self.check(Racing, ("in", 0, 0, 8, 0, 4, 1))
        self.check(Racing, ("out", 0, 0, 8, 0, 3, 5))
        self.check(Racing, ("out", 0, 0, 0, 0, 9, 1))

    def test_never_set_before_may_overflow(self):
        self.check(NeverSet, ("mac", 9, 0, 6, 0, 6, 2), low=0, high=TOP)
        self.check(MayOverflow, ("mac", 9, 0, 0, 0, 0, 2), low=0, high=TOP)
        self.check(NeverSet, ("vector", "mul", 6, 0, 6, 1), low=0, high=TOP)

    def test_the_first_instruction_decides(self):
        wrong = {Unsettled: ("skip", 2, 0), Outside: ("load", 1, 0, 99), Racing: ("load", 1, 0, 4), NeverSet: ("load", 1, 0, 9)}
        for first, one in wrong.items():
            for other in wrong.values():
                self.check(first, one, other)
        self.check(None, ("set", 1, -1), ("skip", 1, 1), ("load", 1, 0, 99))


class Random(unittest.TestCase):
    MACHINE = (32, 24, 32, 3, 4)

    def main(self, table, seed):
        chance = random.Random(seed)
        kinds = [chance.choice("vvvvn." if seed % 4 == 0 else "vvvvn") for _ in range(24)]
        most = 1 << 15 if seed % 6 == 1 else 3
        return tuple({"v": table.variable((k,), -most, most), "n": table.number(k % 3), ".": None}[kind] for k, kind in enumerate(kinds))

    def filled(self, code):
        """Return the code with the near memory filled first, in most cases."""
        return (("in", 0, 0, 0, 0, 0, 24), ("in", 1, 0, 0, 0, 24, 8), ("wait", 0), ("wait", 1)) + code

    def test_against_a_second_account(self):
        met = {}
        for seed in range(600):
            code = random_code(seed, self.MACHINE, 14, seed % 5 == 0)
            code = code if seed % 7 == 0 else self.filled(code)
            table = Terms()
            main = self.main(table, seed)
            expected = error_of(naive_audit.Naive, table, self.MACHINE, code, main)
            self.assertIs(error_of(audit_code, table, self.MACHINE, code, main), expected, seed)
            met[expected] = met.get(expected, 0) + 1
            if expected is None:
                naive = naive_audit.Naive(table, self.MACHINE, code, main)
                self.assertEqual(audit_code(table, self.MACHINE, code, main), naive.main())
        self.assertEqual(set(met), {None, Unsettled, Outside, Racing, NeverSet, MayOverflow}, met)
        self.assertTrue(min(met.values()) > 3, met)

    def test_what_is_accepted_runs(self):
        """Point 809: for all values, all other words in memory and all delays."""
        accepted = 0
        for seed in range(500):
            code = self.filled(random_code(seed, self.MACHINE, 14, False))
            table = Terms()
            main = self.main(table, seed)
            try:
                end = audit_code(table, self.MACHINE, code, main)
            except AuditError:
                continue
            accepted += 1
            for turn in range(4):
                self.compare(table, code, main, end, turn)
        self.assertGreater(accepted, 40)

    def compare(self, table, code, main, end, turn):
        chance = random.Random(turn)
        values = {(k,): chance.randint(-3, 3) for k in range(24)}
        junk = random_words(turn, 24, LOW, TOP)
        words = tuple(junk[k] if at is None else table.value(at, values) for k, at in enumerate(main))
        ran = run_code(self.MACHINE, code, words, random_words(turn + 9, 32, LOW, TOP), random_delays(turn))
        for at, word in zip(end, ran):
            if at is not None:
                self.assertEqual(table.value(at, values), word)


class Limits(unittest.TestCase):
    def test_long_loops_and_transfers(self):
        machine = (64, 16384, 4096, 1, 16)
        table = Terms()
        free = tuple(table.variable((k,), -9, 9) for k in range(4096))
        code = (("in", 0, 0, 0, 0, 0, 4096), ("wait", 0)) + tuple(
            step for k in range(1, 4) for step in (("out", 0, 0, 4096 * k, 0, 0, 4096), ("wait", 0)))
        end = audit_code(table, machine, code, free + (None,) * 12288)
        self.assertEqual(end, free * 4)

    def test_hundreds_of_terms(self):
        """A sum of all words, one after the other, and products of many."""
        machine = (256, 1024, 1024, 1, 16)
        table = Terms()
        free = tuple(table.variable((k,), -9, 9) for k in range(1000))
        code = (("in", 0, 0, 0, 0, 0, 1000), ("wait", 0), ("loop", 1, 0, 1, 1000), ("load", 2, 1, 0), ("do", "add", 3, (3, 2), ()),
                ("end",), ("store", 0, 1000, 3), ("loop", 1, 0, 1, 60), ("load", 2, 1, 0), ("do", "max", 4, (4, 2), ()), ("end",),
                ("store", 0, 1001, 4), ("out", 0, 0, 1000, 0, 1000, 2))
        end = audit_code(table, machine, code, free + (None,) * 24)
        values = {(k,): k % 19 - 9 for k in range(1000)}
        self.assertEqual(table.value(end[1000], values), sum(values.values()))
        self.assertEqual(table.value(end[1001], values), 9)
        self.assertEqual(table.span(end[1000]), (-9000, 9000))
