"""What Part 13 of DOC.md says of programs and goings, step by step, written without the program."""

from itertools import product

from tests.helpers import count
from tests.naive import shape_of, values_of


def words_of(graph):
    """Return how many words each node has."""
    shapes = []
    for kind, args, info in graph[0]:
        shapes.append(shape_of(kind, info, [shapes[arg] for arg in args]))
    return [count(shape) for shape in shapes]


def is_needed(graph, home, device, node, made):
    """Tell whether a device needs a node, given those that are made."""
    if node in graph[1] and home[node] == device:
        return True
    return any(
        node in args and home[at] == device and at not in made for at, (_, args, _) in enumerate(graph[0]))


def programs(graph, pieces, many, assignment):
    """Return the programs, and the greatest numbers of words that the devices hold."""
    home = {node: assignment[k] for k, piece in enumerate(pieces) for node in piece}
    size = words_of(graph)
    told, held, made, peaks = [[] for _ in range(many)], [[] for _ in range(many)], set(), [0] * many
    for piece in pieces:
        for n in piece:
            d = home[n]
            made.add(n)
            told[d].append(("make", n))
            held[d].append(n)
            for e in range(many):
                if e != d and is_needed(graph, home, e, n, made):
                    told[d].append(("send", n, e))
                    told[e].append(("take", n, d))
                    held[e].append(n)
            peaks = [max(most, sum(size[m] for m in row)) for most, row in zip(peaks, held)]
            for m in sorted(held[d]):
                if not is_needed(graph, home, d, m, made):
                    told[d].append(("drop", m))
                    held[d].remove(m)
    return tuple(tuple(row) for row in told), tuple(peaks)


def sent(graph, told):
    size = words_of(graph)
    return sum(size[step[1]] for program in told for step in program if step[0] == "send")


def is_form(step, many_nodes, many):
    if len(step) == 2:
        return step[0] in ("make", "drop") and 0 <= step[1] < many_nodes
    return len(step) == 3 and step[0] in ("send", "take") and 0 <= step[1] < many_nodes and 0 <= step[2] < many


class Wrong(Exception):
    """A going that is not right."""


def demand(holds):
    if not holds:
        raise Wrong


def go(graph, devices, told, chance):
    """Go through programs, a device at random each time; return the peaks, or raise Wrong."""
    memories, channels = devices
    many, size = len(memories), words_of(graph)
    demand(len(told) == many and all(is_form(step, len(size), many) for program in told for step in program))
    room = {(a, b): words for a, b, words in channels}
    ways = {key: [] for key in product(range(many), range(many))}
    held, at, peaks = [set() for _ in told], [0] * many, [0] * many

    def can(d):
        if at[d] == len(told[d]):
            return False
        step = told[d][at[d]]
        if step[0] == "take":
            return bool(ways[step[2], d])
        if step[0] == "send":
            return sum(size[m] for m in ways[d, step[2]]) + size[step[1]] <= room.get((d, step[2]), 0)
        return True

    while any(can(d) for d in range(many)):
        d = chance.choice([d for d in range(many) if can(d)])
        word, n = told[d][at[d]][:2]
        other = told[d][at[d]][2:]
        at[d] += 1
        if word == "make":
            demand(all(arg in held[d] for arg in graph[0][n][1]))
        if word == "take":
            demand(ways[other[0], d].pop(0) == n)
        if word in ("make", "take"):
            demand(n not in held[d])
            held[d].add(n)
        else:
            demand(n in held[d])
        if word == "send":
            ways[d, other[0]].append(n)
        if word == "drop":
            held[d].remove(n)
        peaks[d] = max(peaks[d], sum(size[m] for m in held[d]))
        demand(peaks[d] <= memories[d])
    demand(all(place == len(program) for place, program in zip(at, told)))
    demand(not any(ways.values()))
    demand(all(any(out in row for row in held) for out in graph[1]))
    return tuple(peaks)


def is_right(graph, devices, told, chance):
    try:
        go(graph, devices, told, chance)
    except Wrong:
        return False
    return True


def best(graph, pieces, devices):
    """Return the assignment that point 1305 asks for, or None."""
    memories, channels = devices
    size = words_of(graph)
    found = []
    for assignment in product(range(len(memories)), repeat=len(pieces)):
        told, peaks = programs(graph, pieces, len(memories), assignment)
        room = {(a, b): words for a, b, words in channels}
        fits = all(most <= memory for most, memory in zip(peaks, memories))
        for d, program in enumerate(told):
            fits = fits and all(size[step[1]] <= room.get((d, step[2]), 0) for step in program if step[0] == "send")
        if fits:
            found.append((sent(graph, told), assignment))
    return min(found)[1] if found else None


def outputs(graph, feeds):
    values = values_of(graph, feeds)
    return tuple(values[out] for out in graph[1])
