"""Loop programs for the tests: short ways to write them, and programs made at random from a seed."""

import random

from tensorworks.errors import TensorError
from tensorworks.running import run_program
from tests.helpers import random_info

TWO = ("add", "sub", "mul", "max", "min", "less", "equal")


def form(base, *terms):
    return (base, terms)


def var(variable, factor=1, base=0):
    return (base, ((variable, factor),))


ZERO = form(0)


def num(n):
    return ("number", n)


def load(buffer, where=ZERO):
    return ("load", buffer, where)


def apply(kind, *exprs, info=()):
    return ("apply", kind, exprs, info)


def pick(buffer, where, stride, count, expr):
    return ("pick", buffer, where, stride, count, expr)


def guard(where, expr, other):
    return ("guard", where, expr, other)


def put(buffer, where, expr):
    return ("put", buffer, where, expr)


def copy(to, to_form, source, source_form, count):
    return ("copy", to, to_form, source, source_form, count)


def loop(variable, start, step, count, *body):
    return ("loop", variable, start, step, count, body)


def when(where, *body):
    return ("when", where, body)


def deep(levels, inner=("number", 1)):
    """Return an expression with so many levels."""
    for _ in range(levels - 1):
        inner = apply("neg", inner)
    return inner


def given_for(program, seed, low=-50, high=50):
    chance = random.Random(seed)
    return tuple(tuple(chance.randint(low, high) for _ in range(size)) for role, size in program[0] if role == "in")


class Maker:
    """Makes a random program in which nearly all words are set and inside."""

    def __init__(self, seed, near=True):
        self.chance = random.Random(seed)
        self.buffers = [("in", self.chance.randint(3, 6)), ("in", 4), ("main", 6), ("main", 5)]
        self.buffers += [("near", 5), ("near", 6)] if near else []
        self.chance.shuffle(self.buffers)
        self.fresh = 0

    def program(self, many):
        body = [self.filling(at) for at, (role, _) in enumerate(self.buffers) if role != "in"]
        for _ in range(many):
            body.append(self.statement({}, 0))
        return (tuple(self.buffers), tuple(body))

    def filling(self, at):
        """Return a statement that sets all words of a buffer."""
        role, size = self.buffers[at]
        sources = [k for k, (other, many) in enumerate(self.buffers) if other == "in" and many >= size]
        if role == "near" and sources and self.chance.random() < 0.5:
            return copy(at, ZERO, self.chance.choice(sources), ZERO, size)
        variable = self.new_variable({})
        worth = self.chance.choice([num(self.chance.randint(-5, 5)), ("index", var(variable, 3, -4))])
        return loop(variable, 0, 1, size, put(at, var(variable), worth))

    def new_variable(self, loops):
        free = [v for v in range(12) if v not in loops]
        return self.chance.choice(free)

    def form(self, loops, size):
        """Return a form whose values are from 0 to size - 1."""
        chosen = sorted(self.chance.sample(sorted(loops), self.chance.randint(0, min(2, len(loops)))))
        terms = tuple((v, self.chance.choice([-2, -1, 1, 1, 2])) for v in chosen)
        ends = [sorted(factor * end for end in loops[v]) for v, factor in terms]
        low, high = sum(end[0] for end in ends), sum(end[1] for end in ends)
        if high - low >= size:
            return form(self.chance.randrange(size))
        return (self.chance.randint(-low, size - 1 - high), terms)

    def expr(self, loops, depth):
        kind = self.chance.random()
        if depth == 0 or kind < 0.15:
            return self.leaf(loops)
        if kind < 0.25:
            at = self.chance.randrange(len(self.buffers))
            size = self.buffers[at][1]
            count = self.chance.randint(1, min(size, 3))
            stride = self.chance.choice([-1, 0, 1, 1])
            where = self.form(loops, size - (count - 1) * abs(stride))
            if stride < 0:
                where = (where[0] + count - 1, where[1])
            return pick(at, where, stride, count, self.expr(loops, depth - 1))
        if kind < 0.35:
            return guard(self.condition(loops), self.expr(loops, depth - 1), self.expr(loops, depth - 1))
        if kind < 0.5:
            one = self.chance.choice(["neg", "clamp", "shift"])
            return apply(one, self.expr(loops, depth - 1), info=random_info(self.chance, one, ()))
        if kind < 0.6:
            return apply("where", *[self.expr(loops, depth - 1) for _ in range(3)])
        return apply(self.chance.choice(TWO), self.expr(loops, depth - 1), self.expr(loops, depth - 1))

    def leaf(self, loops):
        kind = self.chance.random()
        if kind < 0.2:
            return num(self.chance.randint(-9, 9))
        if kind < 0.3:
            return ("index", self.form(loops, 9))
        at = self.chance.randrange(len(self.buffers))
        return load(at, self.form(loops, self.buffers[at][1]))

    def condition(self, loops):
        base, terms = self.form(loops, 6)
        return (base - 3, terms)

    def statement(self, loops, depth):
        kind = self.chance.random()
        if depth < 3 and kind < 0.5:
            variable = self.new_variable(loops)
            start, step, count = self.chance.randint(-1, 2), self.chance.choice([-1, 1, 1, 2]), self.chance.randint(1, 3)
            inside = {**loops, variable: sorted([start, start + step * (count - 1)])}
            body = [self.statement(inside, depth + 1) for _ in range(self.chance.randint(1, 2))]
            return loop(variable, start, step, count, *body)
        if depth < 3 and kind < 0.6:
            return when(self.condition(loops), self.statement(loops, depth + 1))
        if kind < 0.72:
            made = self.copying(loops)
            if made:
                return made
        at = self.chance.choice([k for k, (role, _) in enumerate(self.buffers) if role != "in"])
        return put(at, self.form(loops, self.buffers[at][1]), self.expr(loops, self.chance.randint(0, 2)))

    def copying(self, loops):
        nears = [k for k, (role, _) in enumerate(self.buffers) if role == "near"]
        if not nears:
            return None
        near = self.chance.choice(nears)
        other = self.chance.choice([k for k, (role, _) in enumerate(self.buffers) if role != "near"])
        count = self.chance.randint(1, 3)
        forms = [self.form(loops, self.buffers[k][1] - count + 1) for k in (near, other)]
        if self.buffers[other][0] == "main" and self.chance.random() < 0.5:
            return copy(other, forms[1], near, forms[0], count)
        return copy(near, forms[0], other, forms[1], count)


def random_program(seed, many=4, near=True):
    """Return a program that runs without an error, the same for the same seed."""
    for turn in range(100):
        program = Maker(seed * 1000 + turn, near).program(many)
        try:
            run_program(program, given_for(program, 0))
        except TensorError:
            continue
        return program
    raise AssertionError("no program found")
