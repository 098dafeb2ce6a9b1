"""Trainable graphs, and a descent that is reckoned out slope by slope."""

import random

from tensorworks.errors import TensorError
from tensorworks.graphs import check_graph
from tensorworks.kinds import KINDS
from tensorworks.updating import step_graph
from tests import naive
from tests.helpers import count, graph_of, random_graph, scalar, tensor

# A line through points: the loss is the sum of (w x + b - y)^2.
LINE = graph_of([
    tensor("k4", -5, 5), scalar(-100, 100), scalar(-100, 100), tensor("k4", -50, 50),
    ("mul", (0, 1), ()), ("add", (4, 2), ()), ("sub", (5, 3), ()), ("dot", (6, 6), ("k",))])
LINE_BATCHES = (((1, 2, -3, 0), (5, 7, -5, 2)), ((5, -5, 4, 1), (12, -9, 10, 4)), ((0, 0, 0, 0), (3, 1, 2, 2)))
WIDE = (128, 4096, 256, 2, 4)


def with_loss(graph):
    """Return the graph with the sum of all that one of its nodes has as its loss."""
    nodes = list(graph[0])
    shape = check_graph(graph)[-1][0]
    for letter, _ in shape:
        nodes.append(("sum", (len(nodes) - 1,), (letter,)))
    return graph_of(nodes)


def random_trainable(seed, many=8, kinds=KINDS):
    """Return arguments of step_graph that it takes: a graph, parameters, a rate, low and high."""
    chance = random.Random(seed)
    while True:
        graph = with_loss(random_graph(chance.randint(0, 10 ** 9), many, kinds, most=12, wide=10 ** 6))
        inputs = [info for kind, _, info in graph[0] if kind == "input"]
        parameters = tuple(sorted(chance.sample(range(len(inputs)), chance.randint(1, len(inputs)))))
        low = max(inputs[at][1] for at in parameters)
        high = min(inputs[at][2] for at in parameters)
        args = (graph, parameters, chance.randint(1, 5), low, high)
        try:
            step_graph(*args)
        except TensorError:
            continue
        return args


def unit(counts, number, at):
    return tuple(tuple(int((number, at) == (k, e)) for e in range(many)) for k, many in enumerate(counts))


def gradient(graph, feeds):
    """Return the slopes of the loss along each element of each input."""
    counts = [count(info[0]) for kind, _, info in graph[0] if kind == "input"]
    return tuple(
        tuple(naive.slopes_of(graph, feeds, unit(counts, k, e))[graph[1][0]][0] for e in range(many))
        for k, many in enumerate(counts))


def merged(parameters, weights, batch):
    """Return the feeds of a step, in order."""
    own, others = iter(weights), iter(batch)
    return tuple(next(own) if k in parameters else next(others) for k in range(len(weights) + len(batch)))


def descent(args, weights, batch):
    """Return the weights behind a step, and the loss ahead of it."""
    graph, parameters, rate, low, high = args
    feeds = merged(parameters, weights, batch)
    slopes = gradient(graph, feeds)
    fresh = []
    for k, row in zip(parameters, weights):
        fresh.append(tuple(naive.limit(w - (g + 2 ** (rate - 1)) // 2 ** rate, low, high) for w, g in zip(row, slopes[k])))
    return tuple(fresh), naive.values_of(graph, feeds)[graph[1][0]][0]


def random_row(chance, size, low, high):
    return tuple(chance.randint(low, high) for _ in range(size))


def random_weights(args, seed):
    graph, parameters, _, low, high = args
    chance = random.Random(seed)
    inputs = [info for kind, _, info in graph[0] if kind == "input"]
    return tuple(random_row(chance, count(inputs[k][0]), low, high) for k in parameters)


def random_batch(args, seed):
    chance = random.Random(seed)
    inputs = [info for kind, _, info in args[0][0] if kind == "input"]
    return tuple(random_row(chance, count(info[0]), *info[1:]) for k, info in enumerate(inputs) if k not in args[1])
