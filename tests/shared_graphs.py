"""Graphs in pieces, assignments and devices for them, made at random from a seed."""

import random

from tests.helpers import random_graph


def random_pieces(graph, chance, most=7):
    """Return pieces of a graph: its nodes in an order in which args come first, cut anywhere."""
    nodes = graph[0]
    pieces = [[] for _ in range(chance.randint(1, min(most, len(nodes))))]
    home = {}
    for at, (_, args, _) in enumerate(nodes):
        least = max([home[arg] for arg in args], default=0)
        home[at] = chance.randint(least, min(len(pieces) - 1, least + chance.randint(0, 2)))
        pieces[home[at]].append(at)
    return tuple(tuple(piece) for piece in pieces if piece)


def random_devices(chance, most_memory=60, most_room=40):
    many = chance.randint(1, 3)
    pairs = [(a, b) for a in range(many) for b in range(many) if a != b]
    channels = tuple(sorted(pair + (chance.randint(1, most_room),) for pair in pairs if chance.randint(0, 3)))
    return tuple(chance.randint(0, most_memory) for _ in range(many)), channels


def full_devices(many, memory=65536, room=65536):
    """Return devices with a channel between each two."""
    channels = tuple((a, b, room) for a in range(many) for b in range(many) if a != b)
    return (memory,) * many, channels


def random_sharing(seed, many_nodes=9):
    """Return a graph, pieces, a number of devices and an assignment."""
    chance = random.Random(seed)
    graph = random_graph(seed, many_nodes, most=12)
    pieces = random_pieces(graph, chance)
    many = chance.randint(1, 3)
    return graph, pieces, many, tuple(chance.randrange(many) for _ in pieces)
