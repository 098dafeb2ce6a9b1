"""A second account of point 604: a program executed statement by statement, words kept in dicts."""

from tensorworks.errors import RangeError, TooWide, UnsetWord
from tests.naive import pointwise


class Run:
    def __init__(self, program, given):
        self.buffers, body = program
        self.words = {}
        fed = iter(given)
        for at, (role, _) in enumerate(self.buffers):
            if role == "in":
                for k, n in enumerate(next(fed)):
                    self.words[at, k] = n
        self.variables = {}
        self.body(body)

    def result(self):
        return tuple(tuple(self.words.get((at, k)) for k in range(size)) for at, (_, size) in enumerate(self.buffers))

    def value(self, form):
        return form[0] + sum(factor * self.variables[variable] for variable, factor in form[1])

    def inside(self, buffer, place):
        if not 0 <= place < self.buffers[buffer][1]:
            raise RangeError("outside")

    def read(self, buffer, place):
        self.inside(buffer, place)
        if (buffer, place) not in self.words:
            raise UnsetWord("unset")
        return self.words[buffer, place]

    def body(self, statements):
        for statement in statements:
            getattr(self, "do_" + statement[0])(*statement[1:])

    def do_loop(self, variable, start, step, count, body):
        for turn in range(count):
            self.variables[variable] = start + step * turn
            self.body(body)

    def do_when(self, form, body):
        if self.value(form) >= 0:
            self.body(body)

    def do_put(self, buffer, form, expr):
        word = self.expr(expr)
        place = self.value(form)
        self.inside(buffer, place)
        self.words[buffer, place] = word

    def do_copy(self, to, to_form, source, source_form, count):
        first, start = self.value(to_form), self.value(source_form)
        for k in range(count):
            self.inside(to, first + k)
            self.inside(source, start + k)
        words = [self.read(source, start + k) for k in range(count)]
        for k, word in enumerate(words):
            self.words[to, first + k] = word

    def expr(self, expr):
        return getattr(self, "of_" + expr[0])(*expr[1:])

    def of_number(self, n):
        return n

    def of_index(self, form):
        return self.value(form)

    def of_load(self, buffer, form):
        return self.read(buffer, self.value(form))

    def of_pick(self, buffer, form, stride, count, expr):
        n = min(max(self.expr(expr), 0), count - 1)
        return self.read(buffer, self.value(form) + stride * n)

    def of_apply(self, kind, exprs, info):
        n = pointwise(kind, [self.expr(part) for part in exprs], info)
        if abs(n) > 1 << 20000:
            raise TooWide("wide")
        return n

    def of_guard(self, form, expr, other):
        return self.expr(expr if self.value(form) >= 0 else other)


def run(program, given):
    return Run(program, given).result()
