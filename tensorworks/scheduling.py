"""Schedules for graphs: the plain one, and one that uses fewer words of main memory."""

from tensorworks.building import sizes_of
from tensorworks.errors import TensorError
from tensorworks.graphs import check_graph
from tensorworks.lives import lives
from tensorworks.lowering import SOURCES, lower, must_keep, value_levels
from tensorworks.machines import check_machine
from tensorworks.placing import check_places, choose_places
from tensorworks.shapes import count_of, size_of

# So deep an expression may still stand in a stored one, which has two levels more at most.
LEVELS = 7


def computed_nodes(graph):
    """Return the computed nodes."""
    return tuple([at for at, node in enumerate(graph[0]) if node[0] not in SOURCES])


def row_places(sizes):
    """Return the addresses of buffers that stand one behind the other."""
    places = []
    place = 0
    for size in sizes:
        places.append(place)
        place = place + size
    return tuple(places)


def default_schedule(graph):
    """Return the schedule that keeps all computed nodes, one behind the other."""
    domains = check_graph(graph)
    kept = computed_nodes(graph)
    return ((), kept, (), row_places([count_of(domains[at][0]) for at in kept]))


def users_of(nodes):
    """Return for each node the list of the nodes that it is an arg of, one as often as it is."""
    users = [[] for _ in nodes]
    for at, (_, args, _) in enumerate(nodes):
        for arg in args:
            users[arg].append(at)
    return users


def reads_of(node, domains, shape):
    """Return how often an element of an arg of a node is evaluated at most, all in all."""
    kind, args, info = node
    if kind in ("sum", "peak", "fold"):
        return count_of(domains[args[0]][0])
    if kind == "dot":
        return count_of(shape) * size_of(domains[args[0]][0], info[0])
    return count_of(shape)


def needed_nodes(graph, domains):
    """Return the nodes whose values are kept if no element is evaluated more often for it."""
    nodes = graph[0]
    users = users_of(nodes)
    needed = must_keep(graph)
    levels = [1] * len(nodes)
    for at in computed_nodes(graph):
        deep = value_levels(nodes[at], levels)
        if at in needed or len(users[at]) != 1 or deep > LEVELS:
            needed[at] = True
            continue
        user = users[at][0]
        if reads_of(nodes[user], domains, domains[user][0]) > count_of(domains[at][0]):
            needed[at] = True
        else:
            levels[at] = deep
    return tuple(sorted(needed))


def compact(graph, kept):
    """Return the number of words that kept nodes use, and a schedule that keeps them so."""
    program, buffers = lower(graph, kept)
    all_lives = lives(program, tuple([buffers[out] for out in graph[1]]))
    sizes = sizes_of(program, "main")
    places = choose_places(all_lives, sizes)
    return (check_places(all_lives, sizes, places), ((), kept, (), places))


def tuned_schedule(graph, machine):
    """Return a schedule with which an image uses at most as many words as with the default one."""
    domains = check_graph(graph)
    check_machine(machine)
    most, plain = compact(graph, computed_nodes(graph))
    try:
        words, schedule = compact(graph, needed_nodes(graph, domains))
    except TensorError:
        # Where expressions would not keep to the limits of loop programs, all nodes are kept.
        return plain
    return schedule if words <= most else plain
