"""Point 604: loop programs executed on numbers."""

import unittest

from tensorworks.errors import FeedError, FormError, RangeError, TooLarge, TooWide, UnsetWord
from tensorworks.running import run_program
from tests import naive_programs
from tests.helpers import error_of
from tests.programs import (
    ZERO, apply, copy, form, given_for, guard, load, loop, num, pick, put, random_program, var, when)

BUFFERS = (("in", 3), ("main", 3), ("near", 2))
GIVEN = ((5, 6, 7),)
UNSET = load(2)
OUTSIDE = load(0, form(3))


def run(*body, buffers=BUFFERS, given=GIVEN):
    return run_program((buffers, body), given)


def error(*body, buffers=BUFFERS, given=GIVEN):
    return error_of(run_program, (buffers, body), given)


def wide(levels, n):
    """Return an expression for n to the power 2^levels."""
    made = num(n)
    for _ in range(levels):
        made = apply("mul", made, made)
    return made


class Results(unittest.TestCase):
    def test_no_statements(self):
        self.assertEqual(run(), ((5, 6, 7), (None,) * 3, (None,) * 2))
        self.assertEqual(run_program(((), ()), ()), ())

    def test_statements(self):
        self.assertEqual(run(put(1, form(2), load(0, form(1))))[1], (None, None, 6))
        self.assertEqual(run(loop(4, 2, -1, 3, put(1, var(4), ("index", var(4, 10, 1)))))[1], (1, 11, 21))
        self.assertEqual(run(loop(0, 0, 1, 3, when(var(0, 1, -1), put(1, var(0), num(9)))))[1], (None, 9, 9))
        self.assertEqual(run(copy(2, ZERO, 0, form(1), 2), copy(1, form(1), 2, ZERO, 2))[1:], ((None, 6, 7), (6, 7)))

    def test_forms_of_many_terms(self):
        """Each number of terms, up to that of eight loops."""
        factors = (1, -2, 3, 5, -7, 11, 13, -17)
        for many in range(9):
            where = form(4, *[(v, factors[v]) for v in range(many)])
            body = put(1, ZERO, ("index", where))
            for v in range(many):
                body = loop(v, v, 2, 2, body)
            self.assertEqual(run(body)[1][0], 4 + sum(factors[v] * (v + 2) for v in range(many)))

    def test_pick_limits_its_index(self):
        for n, word in ((-9, 5), (0, 5), (1, 6), (2, 7), (99, 7)):
            self.assertEqual(run(put(1, ZERO, pick(0, ZERO, 1, 3, num(n))))[1][0], word)
        self.assertEqual(run(put(1, ZERO, pick(0, form(2), -2, 2, num(7))))[1][0], 5)

    def test_guard_evaluates_one_side_only(self):
        for bad in (UNSET, OUTSIDE, wide(8, 1 << 200)):
            self.assertEqual(run(put(1, ZERO, guard(ZERO, num(3), bad)))[1][0], 3)
            self.assertEqual(run(put(1, ZERO, guard(form(-1), bad, num(4))))[1][0], 4)
            self.assertIsNotNone(error(put(1, ZERO, guard(form(-1), num(3), bad))))
            self.assertIsNotNone(error(put(1, ZERO, guard(form(1), bad, num(3)))))

    def test_put_reads_before_it_sets(self):
        words = run(put(1, ZERO, num(2)), put(1, ZERO, apply("mul", load(1), load(1))))
        self.assertEqual(words[1][0], 4)

    def test_random_programs(self):
        for seed in range(150):
            program = random_program(seed)
            for turn in range(3):
                given = given_for(program, turn)
                self.assertEqual(run_program(program, given), naive_programs.run(program, given))


class Errors(unittest.TestCase):
    def test_of_the_program_first(self):
        self.assertIs(error(put(0, ZERO, num(1)), given=()), FormError)
        self.assertIs(error(put(1, form(5000), num(1)), given=()), RangeError)
        self.assertIs(error(*[put(1, ZERO, num(1))] * 10001, given=()), TooLarge)

    def test_feeds(self):
        for given in ((), GIVEN * 2, ((5, 6),), ((5, 6, 7, 8),)):
            self.assertIs(error(put(1, ZERO, UNSET), given=given), FeedError)
        two = (("main", 1), ("in", 1), ("near", 1), ("in", 2))
        self.assertIsNone(error(buffers=two, given=((1,), (2, 3))))
        self.assertIs(error(buffers=two, given=((1, 2), (3,))), FeedError)

    def test_loads_and_puts(self):
        self.assertIs(error(put(1, ZERO, UNSET)), UnsetWord)
        self.assertIs(error(put(1, ZERO, OUTSIDE)), RangeError)
        self.assertIs(error(put(1, ZERO, load(0, form(-1)))), RangeError)
        self.assertIs(error(put(1, ZERO, load(1, form(3)))), RangeError)
        self.assertIs(error(put(1, form(3), num(1))), RangeError)
        self.assertIs(error(put(1, form(-1), num(1))), RangeError)
        self.assertIsNone(error(put(1, form(2), num(1))))

    def test_copies(self):
        self.assertIs(error(copy(1, ZERO, 2, ZERO, 2)), UnsetWord)
        self.assertIs(error(put(2, ZERO, num(1)), copy(1, ZERO, 2, ZERO, 2)), UnsetWord)
        self.assertIs(error(copy(1, ZERO, 2, ZERO, 3)), RangeError)
        self.assertIs(error(copy(1, form(2), 2, ZERO, 2)), RangeError)
        self.assertIs(error(copy(1, form(-1), 2, ZERO, 2)), RangeError)
        self.assertIs(error(copy(2, form(1), 0, ZERO, 2)), RangeError)
        self.assertIs(error(copy(2, ZERO, 0, form(-1), 2)), RangeError)
        self.assertIs(error(copy(2, ZERO, 0, form(2), 2)), RangeError)
        self.assertIsNone(error(copy(2, ZERO, 0, form(1), 2)))

    def test_picks(self):
        self.assertIs(error(put(1, ZERO, pick(2, ZERO, 1, 2, num(1)))), UnsetWord)
        self.assertIs(error(put(1, ZERO, pick(0, ZERO, 3, 2, num(1)))), RangeError)
        self.assertIs(error(put(1, ZERO, pick(0, ZERO, -1, 2, num(1)))), RangeError)
        self.assertIsNone(error(put(1, ZERO, pick(0, ZERO, 3, 2, num(0)))))
        self.assertIsNone(error(put(2, ZERO, num(1)), put(1, ZERO, pick(2, ZERO, 1, 2, num(0)))))

    def test_too_wide(self):
        self.assertIsNone(error(put(1, ZERO, wide(6, 1 << 200))))
        self.assertIs(error(put(1, ZERO, wide(7, 1 << 200))), TooWide)
        limit = power(20000)
        self.assertIsNone(error(put(1, ZERO, limit)))
        self.assertIs(error(put(1, ZERO, apply("add", limit, num(1)))), TooWide)
        self.assertIs(error(put(1, ZERO, apply("sub", apply("neg", limit), num(1)))), TooWide)
        self.assertIsNone(error(put(1, ZERO, apply("neg", limit))))

    def test_given_words_may_be_wide(self):
        self.assertEqual(run(put(1, ZERO, load(0)), given=((1 << 20001, 0, 0),))[1][0], 1 << 20001)


class Order(unittest.TestCase):
    def test_the_first_one_executed_decides(self):
        wrong = {UnsetWord: UNSET, RangeError: OUTSIDE, TooWide: wide(7, 1 << 200)}
        for first, one in wrong.items():
            for other in wrong.values():
                self.assertIs(error(put(1, ZERO, one), put(1, ZERO, other)), first)
                self.assertIs(error(put(1, ZERO, apply("add", one, other))), first)
                self.assertIs(error(put(1, ZERO, apply("where", num(1), one, other))), first)
                self.assertIs(error(put(1, form(9), one)), first)
                self.assertIs(error(put(1, ZERO, pick(0, form(9), 1, 1, one))), first)

    def test_in_loops(self):
        body = (put(1, var(0), num(1)), put(1, ZERO, load(2, var(0, 2))))
        self.assertIs(error(loop(0, 0, 1, 9, *body)), UnsetWord)
        self.assertIs(error(put(2, ZERO, num(0)), loop(0, 0, 1, 9, *body)), RangeError)
        self.assertIs(error(loop(0, 0, 1, 9, put(1, var(0), num(1)))), RangeError)

    def test_words_before_an_unset_one(self):
        """A copy raises RangeError for any of its words, then UnsetWord; a pick and a load for their word."""
        self.assertIs(error(copy(1, form(2), 2, ZERO, 2)), RangeError)
        self.assertIs(error(copy(1, ZERO, 2, form(1), 2)), RangeError)


def power(bits):
    """Return an expression for 2^bits: products of powers of 2^200, a tree of few levels."""
    factors = [num(1 << 200)] * (bits // 200) + [num(1 << bits % 200)]
    while len(factors) > 1:
        factors = [apply("mul", *pair) if len(pair) == 2 else pair[0] for pair in pairs(factors)]
    return factors[0]


def pairs(row):
    return [row[at:at + 2] for at in range(0, len(row), 2)]


class Limits(unittest.TestCase):
    def test_many_steps(self):
        body = loop(0, 0, 1, 1000, loop(1, 0, 1, 1000, put(1, ZERO, ("index", form(1, (0, 2), (1, -1))))))
        self.assertEqual(run(body)[1][0], 1 + 2 * 999 - 999)

    def test_many_statements(self):
        buffers = (("main", 4096), ("near", 4096))
        body = (loop(0, 0, 1, 1000, put(0, var(0), num(3))), copy(1, form(9), 0, ZERO, 1000))
        many = (copy(0, form(2000), 1, form(9), 100),) * 19997
        words = run_program((buffers, body + many), ())
        self.assertEqual(words[0][2000:2101], (3,) * 100 + (None,))
