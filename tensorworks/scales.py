"""Codes of a few bits for numbers: scales, zeros, tables of them, and multipliers."""

from tensorworks.errors import KindError, RangeError, TableError
from tensorworks.graphs import check_graph
from tensorworks.kinds import limit
from tensorworks.ratios import compare, fraction, nearest, over, plus, times, whole

MOVING = ("order", "rename", "spread", "cut", "pad", "window")
MODEL_KINDS = (
    "input", "const", "add", "sub", "mul", "max", "min", "neg", "sum", "dot", "join",
    "order", "rename", "spread", "cut", "pad", "window",
)
FEWEST_BITS = 3
MOST_BITS = 12
# 2^40: no part of a scale is greater.
PART_LIMIT = 1099511627776
SHIFT_LIMIT = 30
FACTOR_LIMIT = 65535


def multiplier(a):
    """Return the pair (m, s) with m / 2^s close to a fraction."""
    for shift in range(SHIFT_LIMIT, 0, -1):
        factor = nearest(times(a, (1 << shift, 1)))
        if factor == 0:
            raise TableError("the fraction is too small")
        if factor <= FACTOR_LIMIT:
            return (factor, shift)
    raise TableError("the fraction is too great")


def check_bits(bits):
    """Raise the error of a number of bits."""
    if not FEWEST_BITS <= bits <= MOST_BITS:
        raise RangeError("the number of bits is out of its range")


def code_range(bits):
    """Return the least and the greatest code."""
    half = 1 << (bits - 1)
    return (-half, half - 1)


def code_of(pair, bits, x):
    """Return the code of a fraction."""
    check_bits(bits)
    scale, zero = pair
    low, high = code_range(bits)
    return limit(nearest(over(x, scale)) + zero, low, high)


def meaning_of(pair, code):
    """Return the fraction that a code means."""
    scale, zero = pair
    return times(scale, (code - zero, 1))


def check_model(graph, bits):
    """Return the domains of a model, or raise the error of the graph, of its kinds or of the bits."""
    domains = check_graph(graph)
    if any([kind not in MODEL_KINDS for kind, _, _ in graph[0]]):
        raise KindError("a model has no nodes of this kind")
    check_bits(bits)
    return domains


def chosen_pair(low, high, bits):
    """Return the pair for numbers from low to high and 0."""
    low = min(low, 0)
    high = max(high, 0)
    if low == high:
        return ((1, 1), 0)
    scale = fraction(high - low, (1 << bits) - 2)
    return (scale, -whole(plus((1 << (bits - 1), 1), over((low, 1), scale))))


def choose_table(graph, bits):
    """Return a table for a model."""
    domains = check_model(graph, bits)
    table = []
    for (kind, args, _), (_, low, high) in zip(graph[0], domains):
        table.append(table[args[0]] if kind in MOVING else chosen_pair(low, high, bits))
    return tuple(table)


def check_pair(pair, bits):
    """Raise the error of a pair with a wrong scale or zero."""
    (numerator, denominator), zero = pair
    low, high = code_range(bits)
    if numerator <= 0 or numerator > PART_LIMIT or denominator > PART_LIMIT:
        raise TableError("a scale is not greater than zero or has too great parts")
    if not low <= zero <= high:
        raise TableError("a zero is not a code")


def check_span(pair, bits, span):
    """Raise the error of an interval beyond what the codes mean."""
    low, high = code_range(bits)
    if compare((span[0], 1), meaning_of(pair, low)) < 0 or compare((span[1], 1), meaning_of(pair, high)) > 0:
        raise TableError("an interval is wider than the codes reach")


def checked_domains(graph, table, bits):
    """Return the domains of a model whose table is right."""
    domains = check_model(graph, bits)
    if len(table) != len(graph[0]):
        raise TableError("not as many pairs as nodes")
    for (kind, args, _), pair, domain in zip(graph[0], table, domains):
        check_pair(pair, bits)
        if kind not in MOVING:
            check_span(pair, bits, domain[1:])
        elif pair != table[args[0]]:
            raise TableError("a node that moves has another pair than its arg")
    return domains


def check_table(graph, table, bits):
    """Raise the error of a table."""
    checked_domains(graph, table, bits)
