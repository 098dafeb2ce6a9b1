"""Graphs whose reached nodes are smooth, or not rough, made at random from a seed, and lines through feeds."""

import random

from tensorworks.domains import domain_of
from tensorworks.errors import TensorError
from tensorworks.kinds import KINDS
from tests.helpers import count, random_node, random_shape

SMOOTH = ("add", "sub", "mul", "neg", "sum", "dot", "order", "rename", "spread", "cut", "pad", "join", "window", "fold")
CREASED = ("max", "min", "clamp", "peak")


def look_of(node, reached):
    """Return how a node hangs on inputs: still, smooth, creased or rough."""
    kind, args, _ = node
    if kind == "input":
        return "smooth"
    if not any(reached[arg] for arg in args):
        return "still"
    if kind in SMOOTH or (kind == "gather" and not reached[args[1]]) or (kind == "where" and not reached[args[0]]):
        return "smooth"
    return "creased" if kind in CREASED else "rough"


def graph_with(seed, many, looks, most=27, wide=10 ** 9):
    """Return a graph of so many nodes, the look of each of which is one of these."""
    chance = random.Random(seed)
    nodes, domains, reached = [], [], []
    while len(nodes) < many:
        kind = chance.choice(KINDS[2:]) if len(nodes) > 3 else ("input", "const", "const", "input")[len(nodes)]
        if kind in ("input", "const") or domains:
            node = random_node(chance, kind, domains) if domains or kind != "input" else (
                "input", (), (random_shape(chance, 2), -4, 5))
        try:
            domain = domain_of(node, domains)
        except TensorError:
            continue
        look = look_of(node, reached)
        if count(domain[0]) <= most and -wide <= domain[1] and domain[2] <= wide and look in looks:
            nodes.append(node)
            domains.append(domain)
            reached.append(look != "still")
    outs = tuple(sorted({chance.randrange(many), many - 1, many // 2}))
    return (tuple(nodes), outs)


def smooth_graph(seed, many=10):
    return graph_with(seed, many, ("still", "smooth"))


def creased_graph(seed, many=10):
    return graph_with(seed, many, ("still", "smooth", "creased"))


def rough_graph(seed, many=10):
    return graph_with(seed, many, ("still", "smooth", "creased", "rough"))


def looks_of(graph):
    """Return the set of the looks of all nodes."""
    reached, looks = [], set()
    for node in graph[0]:
        look = look_of(node, reached)
        looks.add(look)
        reached.append(look != "still")
    return looks


def moved(feeds, direction, t):
    """Return the feeds plus t times the direction."""
    return tuple(tuple(n + t * way for n, way in zip(feed, row)) for feed, row in zip(feeds, direction))
