"""What the tests have in common: which error a call raises, and graphs made at random from a seed."""

import random

from tensorworks.domains import domain_of
from tensorworks.errors import TensorError
from tensorworks.kinds import KINDS

LETTERS = "ijkm"
WIDE = 1 << 200


def error_of(call, *args):
    """Return the class of the error that a call raises, or None if it returns."""
    try:
        call(*args)
    except TensorError as error:
        return error.__class__
    return None


def scalar(low, high):
    return ("input", (), ((), low, high))


def vector(letter, size, low=-9, high=9):
    return ("input", (), (((letter, size),), low, high))


def tensor(word, low=-9, high=9):
    """Return an input whose shape is given like i2k3."""
    return ("input", (), (shape(word), low, high))


def shape(word):
    return tuple((word[at], int(word[at + 1])) for at in range(0, len(word), 2))


def const(word, *data):
    return ("const", (), (shape(word), data))


def graph_of(nodes, *outs):
    """Return the graph of the nodes; without outputs given the last node is the output."""
    return (tuple(nodes), outs or (len(nodes) - 1,))


def count(axes):
    product = 1
    for _, size in axes:
        product *= size
    return product


def random_shape(chance, most):
    letters = chance.sample(LETTERS, chance.randint(0, most))
    return tuple((letter, chance.randint(1, 3)) for letter in letters)


def random_info(chance, kind, axes):
    """Return fields for a kind; axes is the shape of the first arg."""
    axis, size = chance.choice(axes) if axes else ("i", 1)
    letter = chance.choice(LETTERS + "nq")
    low = chance.randint(-6, 4)
    if kind == "clamp":
        return (low, low + chance.randint(0, 6))
    if kind == "shift":
        return (chance.randint(1, 3),)
    if kind in ("sum", "peak", "dot", "join", "gather"):
        return (axis,)
    if kind == "order":
        return ("".join(chance.sample([name for name, _ in axes], len(axes))),)
    if kind == "rename":
        return (axis, letter)
    if kind == "spread":
        return (letter, chance.randint(1, 3))
    if kind == "cut":
        start = chance.randint(0, size - 1)
        return (axis, start, chance.randint(1, size - start))
    if kind == "pad":
        return (axis, chance.randint(0, 2), chance.randint(0, 2))
    if kind == "window":
        return (axis, letter, chance.randint(1, size), chance.randint(1, 2))
    if kind == "fold":
        return (axis, chance.choice(axes)[0] if axes else "k", chance.randint(1, 2), chance.randint(1, 9))
    return ()


ARGS = {"sub": 2, "add": 2, "mul": 2, "max": 2, "min": 2, "less": 2, "equal": 2, "where": 3, "dot": 2, "join": 2, "gather": 2}


def random_node(chance, kind, domains):
    if kind == "input":
        low = chance.randint(-4, 2)
        return ("input", (), (random_shape(chance, 3), low, low + chance.randint(0, 6)))
    if kind == "const":
        axes = random_shape(chance, 2)
        return ("const", (), (axes, tuple(chance.randint(-4, 4) for _ in range(count(axes)))))
    args = tuple(chance.randrange(len(domains)) for _ in range(ARGS.get(kind, 1)))
    return (kind, args, random_info(chance, kind, domains[args[0]][0]))


def random_graph(seed, many, kinds=KINDS, most=81, wide=10 ** 9):
    """Return a valid graph of so many nodes, of these kinds, the same for the same seed."""
    chance = random.Random(seed)
    nodes = [("input", (), (random_shape(chance, 3), -3, 4))]
    domains = [nodes[0][2]]
    while len(nodes) < many:
        node = random_node(chance, chance.choice(kinds), domains)
        try:
            domain = domain_of(node, domains)
        except TensorError:
            continue
        if count(domain[0]) <= most and -wide <= domain[1] and domain[2] <= wide:
            nodes.append(node)
            domains.append(domain)
    outs = tuple(sorted({chance.randrange(many), many - 1, many // 2}))
    return (tuple(nodes), outs)


def random_feeds(graph, seed, low=None, high=None):
    """Return feeds in the intervals of the inputs, or numbers from low to high in their shapes."""
    chance = random.Random(seed)
    feeds = []
    for kind, _, info in graph[0]:
        if kind == "input":
            ends = (info[1], info[2]) if low is None else (low, high)
            feeds.append(tuple(chance.randint(*ends) for _ in range(count(info[0]))))
    return tuple(feeds)
