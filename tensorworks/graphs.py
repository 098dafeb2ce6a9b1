"""Graphs: whether they are valid, their inputs and their work."""

from tensorworks.domains import domain_of
from tensorworks.errors import FormError, TooLarge
from tensorworks.kinds import NODE_LIMIT, WORK_LIMIT
from tensorworks.shapes import count_of, size_of


def node_work(node, domains, shape):
    """Return the work of a node with a shape, given the domains of its args."""
    kind, args, info = node
    if kind in ("input", "const"):
        return 0
    if kind in ("sum", "peak", "fold"):
        return count_of(domains[args[0]][0])
    if kind == "dot":
        return count_of(shape) * size_of(domains[args[0]][0], info[0])
    return count_of(shape)


def works_of(nodes, domains):
    """Return a list with the work of each node."""
    return [node_work(node, domains, domain[0]) for node, domain in zip(nodes, domains)]


def domains_from(graph, known):
    """Check a graph whose first nodes are known to have these domains, and return all domains."""
    nodes, outs = graph
    if len(nodes) > NODE_LIMIT:
        raise TooLarge("too many nodes")
    domains = list(known)
    for node in nodes[len(known):]:
        domains.append(domain_of(node, domains))
    if not outs:
        raise FormError("there are no outputs")
    for out in outs:
        if not 0 <= out < len(nodes):
            raise FormError("an output is not a node")
    if sum(works_of(nodes, domains)) > WORK_LIMIT:
        raise TooLarge("too much work")
    return tuple(domains)


def check_graph(graph):
    """Return the domains of all nodes, or raise the error of the graph."""
    return domains_from(graph, ())


def input_places(nodes):
    """Return the indexes of the inputs among nodes."""
    return tuple([at for at, node in enumerate(nodes) if node[0] == "input"])


def inputs_of(graph):
    """Return the indexes of the inputs."""
    check_graph(graph)
    return input_places(graph[0])


def work_of(graph):
    """Return the work of a graph."""
    domains = check_graph(graph)
    return sum(works_of(graph[0], domains))
