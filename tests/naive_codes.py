"""What Part 10 of DOC.md says, element by element and with Python's own fractions, written without the program."""

from fractions import Fraction
from math import floor

from tests.naive import all_indexes, element, filled, shape_of

MOVING = ("order", "rename", "spread", "cut", "pad", "window")


def ends(bits):
    return -(2 ** (bits - 1)), 2 ** (bits - 1) - 1


def limited(n, bits):
    low, high = ends(bits)
    return max(low, min(high, n))


def rounded(x):
    return floor(x + Fraction(1, 2))


def code(pair, bits, x):
    return limited(rounded(x / Fraction(*pair[0])) + pair[1], bits)


def meaning(pair, n):
    return Fraction(*pair[0]) * (n - pair[1])


def multiplier(f):
    """Return the pair of point 1005, or None."""
    found = [s for s in range(1, 31) if rounded(f * 2 ** s) <= 65535]
    if not found or rounded(f * 2 ** found[-1]) == 0:
        return None
    return rounded(f * 2 ** found[-1]), found[-1]


def times(n, f):
    """Return what `times f` makes of an integer."""
    m, s = multiplier(f)
    return n if m == 2 ** s else (n * m + 2 ** (s - 1)) // 2 ** s


def codes_of_node(kind, info, shapes, rows, shape, pair, pairs, bits):
    """Return a dict of the codes of a computed node, given those of its args."""
    scale = Fraction(*pair[0])
    less = [{at: n - own[1] for at, n in row.items()} for row, own in zip(rows, pairs)]
    scales = [Fraction(*own[0]) for own in pairs]
    if kind in ("add", "sub", "max", "min", "join"):
        less = [{at: times(n, own / scale) for at, n in row.items()} for row, own in zip(less, scales)]
    made = {tuple(at.values()): element(kind, info, shapes, less, at) for at in all_indexes(shape)}
    if kind in MOVING:
        return {at: n + pair[1] for at, n in made.items()}
    if kind in ("neg", "sum"):
        made = {at: times(n, scales[0] / scale) for at, n in made.items()}
    if kind in ("mul", "dot"):
        made = {at: times(n, scales[0] * scales[1] / scale) for at, n in made.items()}
    return {at: limited(n + pair[1], bits) for at, n in made.items()}


def codes_of(graph, table, bits, feeds):
    """Return the codes of the outputs of a model for feeds of numbers."""
    shapes, rows, fed = [], [], iter(feeds)
    for (kind, args, info), pair in zip(graph[0], table):
        shape = shape_of(kind, info, [shapes[arg] for arg in args])
        if not args:
            numbers = next(fed) if kind == "input" else info[1]
            row = filled(shape, [code(pair, bits, Fraction(n)) for n in numbers])
        else:
            own = [[have[arg] for arg in args] for have in (shapes, rows, table)]
            row = codes_of_node(kind, info, own[0], own[1], shape, pair, own[2], bits)
        shapes.append(shape)
        rows.append(row)
    return tuple(tuple(rows[out].values()) for out in graph[1])


def step(scale, f, most):
    m, s = multiplier(f)
    if m == 2 ** s:
        return scale * most * abs(f - 1)
    return scale * (most * abs(f - Fraction(m, 2 ** s)) + Fraction(1, 2))


def error_of_node(node, domains, at, table, bits, errors):
    """Return the error of a node by the table of point 1008."""
    kind, args, info = node
    scale, zero = Fraction(*table[at][0]), table[at][1]
    if kind == "input":
        return Fraction(0) if scale.numerator == 1 else scale / 2
    if kind == "const":
        return max(abs(n - meaning(table[at], code(table[at], bits, Fraction(n)))) for n in info[1])
    e = [errors[arg] for arg in args]
    r = [Fraction(*table[arg][0]) for arg in args]
    d = [max(abs(end - table[arg][1]) for end in ends(bits)) for arg in args]
    wide = [max(abs(domains[arg][1]), abs(domains[arg][2])) for arg in args]
    size = dict(domains[args[0]][0]).get(info[0]) if info else None
    if kind in MOVING:
        return e[0]
    if kind in ("add", "sub"):
        return e[0] + e[1] + step(scale, r[0] / scale, d[0]) + step(scale, r[1] / scale, d[1])
    if kind in ("max", "min", "join"):
        return max(e[k] + step(scale, r[k] / scale, d[k]) for k in (0, 1))
    if kind == "neg":
        return e[0] + step(scale, r[0] / scale, d[0])
    if kind == "mul":
        return r[0] * d[0] * e[1] + wide[1] * e[0] + step(scale, r[0] * r[1] / scale, d[0] * d[1])
    if kind == "dot":
        return size * (r[0] * d[0] * e[1] + wide[1] * e[0]) + step(scale, r[0] * r[1] / scale, size * d[0] * d[1])
    assert kind == "sum"
    return size * e[0] + step(scale, r[0] / scale, size * d[0])


def bounds_of(graph, domains, table, bits):
    errors = []
    for at, node in enumerate(graph[0]):
        errors.append(error_of_node(node, domains, at, table, bits, errors))
    return tuple(errors[out] for out in graph[1])
