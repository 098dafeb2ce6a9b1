"""Making a graph smaller without changing what it computes."""

from tensorworks.carrying import computed_row
from tensorworks.graphs import check_graph
from tensorworks.meaning import Integers


def needed_flags(nodes, outs):
    """Return a list that tells for each node whether an output is or needs it."""
    flags = [False] * len(nodes)
    for out in outs:
        flags[out] = True
    for place in range(len(nodes) - 1, -1, -1):
        if flags[place]:
            for arg in nodes[place][1]:
                flags[arg] = True
    return flags


def pruned(graph):
    """Return a valid graph without the nodes that no output needs, except the inputs."""
    nodes, outs = graph
    flags = needed_flags(nodes, outs)
    moves = {}
    kept = []
    for place, (kind, args, info) in enumerate(nodes):
        if flags[place] or kind == "input":
            moves[place] = len(kept)
            kept.append((kind, tuple([moves[arg] for arg in args]), info))
    return (tuple(kept), tuple([moves[out] for out in outs]))


def prune(graph):
    """Return the graph without the nodes that no output needs, except the inputs."""
    check_graph(graph)
    return pruned(graph)


def fold_constants(graph):
    """Return the graph with a const for each computed node that hangs on nothing else."""
    domains = check_graph(graph)
    nodes = []
    for (kind, args, info), (shape, _, _) in zip(graph[0], domains):
        fixed = all([nodes[arg][0] == "const" for arg in args])
        if args and fixed:
            rows = [nodes[arg][2][1] for arg in args]
            data = computed_row(Integers(), (kind, args, info), [domains[arg][0] for arg in args], shape, rows)
            nodes.append(("const", (), (shape, data)))
        else:
            nodes.append((kind, args, info))
    return (tuple(nodes), graph[1])


def share(graph):
    """Return the graph with one node for all that are equal, inputs excepted."""
    check_graph(graph)
    nodes = []
    moves = []
    earlier = {}
    for kind, args, info in graph[0]:
        node = (kind, tuple([moves[arg] for arg in args]), info)
        if kind == "input" or node not in earlier:
            earlier[node] = len(nodes)
            nodes.append(node)
            moves.append(len(nodes) - 1)
        else:
            moves.append(earlier[node])
    return (tuple(nodes), tuple([moves[out] for out in graph[1]]))
