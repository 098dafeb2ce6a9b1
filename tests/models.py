"""Models and tables for them, made at random from a seed."""

import random
from fractions import Fraction

from tensorworks.graphs import check_graph
from tensorworks.scales import MODEL_KINDS, check_table, choose_table
from tests.helpers import error_of, random_graph
from tests.naive_codes import MOVING, ends


def random_pair(chance, low, high, bits):
    """Return a pair whose codes reach from low to high."""
    first, last = ends(bits)
    zero = chance.choice((chance.randint(first, last), 0, chance.randint(first, last) // 4))
    if low < 0:
        zero = max(zero, first + 1)
    if high > 0:
        zero = min(zero, last - 1)
    least = max(Fraction(low, first - zero) if low < 0 else Fraction(0), Fraction(high, last - zero) if high > 0 else Fraction(0))
    scale = least * chance.choice((1, 1, Fraction(3, 2), Fraction(5, 4), 3)) or Fraction(chance.randint(1, 5), chance.randint(1, 3))
    if chance.randint(0, 3) == 0:
        scale = Fraction(max(1, -(-scale.numerator // scale.denominator)))
    return ((scale.numerator, scale.denominator), zero)


def random_table(graph, bits, seed):
    """Return a table that is right for a model, if its scales are not too long."""
    chance = random.Random(seed)
    if chance.randint(0, 2) == 0:
        return choose_table(graph, bits)
    table = []
    for (kind, args, _), (_, low, high) in zip(graph[0], check_graph(graph)):
        table.append(table[args[0]] if kind in MOVING else random_pair(chance, low, high, bits))
    return tuple(table)


def random_models(seeds, many=9, kinds=MODEL_KINDS):
    """Return triples of a model, a table that is right, and bits."""
    found = []
    for seed in seeds:
        graph = random_graph(seed, many, kinds, most=27)
        bits = 3 + seed % 10
        table = random_table(graph, bits, seed)
        if error_of(check_table, graph, table, bits) is None:
            found.append((graph, table, bits))
    return found


def end_feeds(graph, seed):
    """Return feeds at the ends of the intervals of the inputs, or near 0."""
    chance = random.Random(seed)
    feeds = []
    for node, (shape, low, high) in zip(graph[0], check_graph(graph)):
        if node[0] == "input":
            many = 1
            for _, size in shape:
                many *= size
            row = [chance.choice((low, high, min(max(0, low), high))) for _ in range(many)]
            feeds.append(tuple([low] * many if seed % 4 == 0 else [high] * many if seed % 4 == 1 else row))
    return tuple(feeds)
