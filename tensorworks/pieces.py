"""Programs of devices that share a graph in pieces."""

from tensorworks.devices import checked_pieces
from tensorworks.errors import PieceError
from tensorworks.shapes import count_of


def check_assignment(pieces, many, assignment):
    """Raise the error of an assignment of pieces to so many devices."""
    if len(assignment) != len(pieces):
        raise PieceError("not as many devices as pieces")
    if any([not 0 <= device < many for device in assignment]):
        raise PieceError("there is no such device")


def sequence_of(pieces):
    """Return the nodes in the order in which they are made."""
    return [node for piece in pieces for node in piece]


def homes_of(pieces, assignment):
    """Return a dict with the device of each node."""
    return {node: device for piece, device in zip(pieces, assignment) for node in piece}


def needs_of(graph, pieces, assignment):
    """Return for each node a dict with the last moment at which each device needs it."""
    nodes, outs = graph
    home = homes_of(pieces, assignment)
    sequence = sequence_of(pieces)
    needs = [{} for _ in nodes]
    for moment, node in enumerate(sequence):
        for arg in nodes[node][1]:
            needs[arg][home[node]] = moment
    for out in outs:
        needs[out][home[out]] = len(sequence)
    return needs


def made_programs(graph, pieces, many, assignment):
    """Return the programs of so many devices; pieces and assignment are right."""
    nodes = graph[0]
    home = homes_of(pieces, assignment)
    needs = needs_of(graph, pieces, assignment)
    programs = [[] for _ in range(many)]
    for moment, node in enumerate(sequence_of(pieces)):
        own = home[node]
        programs[own].append(("make", node))
        for device in sorted(needs[node]):
            if device != own:
                programs[own].append(("send", node, device))
                programs[device].append(("take", node, own))
        # Only what this node is made of, or the node itself if nobody needs it, can be needed no more from now on.
        for held in sorted(set(nodes[node][1] + (node,))):
            if needs[held].get(own, -1) <= moment:
                programs[own].append(("drop", held))
    return tuple([tuple(program) for program in programs])


def counts_of(domains):
    """Return the list of the counts of nodes with these domains."""
    return [count_of(shape) for shape, _, _ in domains]


def words_in(programs, counts):
    """Return how many words programs send."""
    return sum([counts[step[1]] for program in programs for step in program if step[0] == "send"])


def peak_in(program, counts):
    """Return the greatest number of words that a device holds in its program."""
    peak = 0
    words = 0
    for step in program:
        if step[0] in ("make", "take"):
            words = words + counts[step[1]]
        if step[0] == "drop":
            words = words - counts[step[1]]
        peak = max(peak, words)
    return peak


def programs_of(graph, pieces, many, assignment):
    """Return the programs of the devices."""
    checked_pieces(graph, pieces)
    check_assignment(pieces, many, assignment)
    return made_programs(graph, pieces, many, assignment)


def words_sent(graph, pieces, many, assignment):
    """Return how many words are sent."""
    domains = checked_pieces(graph, pieces)
    check_assignment(pieces, many, assignment)
    return words_in(made_programs(graph, pieces, many, assignment), counts_of(domains))


def peaks_of(graph, pieces, many, assignment):
    """Return the greatest numbers of words that the devices hold."""
    domains = checked_pieces(graph, pieces)
    check_assignment(pieces, many, assignment)
    counts = counts_of(domains)
    return tuple([peak_in(program, counts) for program in made_programs(graph, pieces, many, assignment)])
