"""How far the outputs of a graph on codes can be from those of its model."""

from tensorworks.ratios import compare, fraction, magnitude, minus, over, plus, times
from tensorworks.scales import MOVING, checked_domains, code_of, code_range, meaning_of, multiplier
from tensorworks.shapes import size_of

HALF = (1, 2)
ONE = (1, 1)


def greater(a, b):
    """Return the greater one of two fractions."""
    return a if compare(a, b) >= 0 else b


def scaled_by(a, n):
    """Return a fraction times an integer."""
    return times(a, (n, 1))


class Bounds:
    """The errors of the nodes of a model, one behind the other."""

    def __init__(self, graph, domains, table, bits):
        self.nodes = graph[0]
        self.domains = domains
        self.table = table
        self.bits = bits
        self.errors = []

    def reach(self, node):
        """Return the greatest distance of a code of a node from its zero."""
        low, high = code_range(self.bits)
        zero = self.table[node][1]
        return max(abs(low - zero), abs(high - zero))

    def widest(self, node):
        """Return the greatest absolute value in the interval of a node."""
        _, low, high = self.domains[node]
        return max(abs(low), abs(high))

    def rounding(self, node, source, most):
        """Return what the rounding adds that turns multiples of a scale into those of the scale of a node."""
        scale = self.table[node][0]
        factor = over(source, scale)
        m, shift = multiplier(factor)
        if m == 1 << shift:
            return times(scale, scaled_by(magnitude(minus(factor, ONE)), most))
        miss = magnitude(minus(factor, fraction(m, 1 << shift)))
        return times(scale, plus(scaled_by(miss, most), HALF))

    def source_error(self, at):
        """Return the error of an input or a const."""
        kind, _, info = self.nodes[at]
        pair = self.table[at]
        if kind == "input":
            return (0, 1) if pair[0][0] == 1 else times(pair[0], HALF)
        worst = (0, 1)
        for n in info[1]:
            worst = greater(worst, magnitude(minus((n, 1), meaning_of(pair, code_of(pair, self.bits, (n, 1))))))
        return worst

    def scaled_error(self, at, arg, many):
        """Return the error of so many elements of an arg, turned into multiples of the scale of a node."""
        own = scaled_by(self.errors[arg], many)
        return plus(own, self.rounding(at, self.table[arg][0], many * self.reach(arg)))

    def product_error(self, at, many):
        """Return the error of the sum of so many products."""
        a, b = self.nodes[at][1]
        first = times(scaled_by(self.table[a][0], self.reach(a)), self.errors[b])
        both = plus(first, scaled_by(self.errors[a], self.widest(b)))
        source = times(self.table[a][0], self.table[b][0])
        return plus(scaled_by(both, many), self.rounding(at, source, many * self.reach(a) * self.reach(b)))

    def error_of(self, at):
        """Return the error of a node; those of its args are known."""
        kind, args, info = self.nodes[at]
        if not args:
            return self.source_error(at)
        if kind in MOVING:
            return self.errors[args[0]]
        many = size_of(self.domains[args[0]][0], info[0]) if kind in ("sum", "dot") else 1
        if kind in ("mul", "dot"):
            return self.product_error(at, many)
        parts = [self.scaled_error(at, arg, many) for arg in args]
        if len(parts) == 1:
            return parts[0]
        if kind in ("add", "sub"):
            return plus(parts[0], parts[1])
        return greater(parts[0], parts[1])


def bound_of(graph, table, bits):
    """Return for each output how far it can be from that of the model."""
    domains = checked_domains(graph, table, bits)
    bounds = Bounds(graph, domains, table, bits)
    for at in range(len(graph[0])):
        bounds.errors.append(bounds.error_of(at))
    return tuple([bounds.errors[out] for out in graph[1]])
