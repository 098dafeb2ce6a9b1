"""Several steps of descent in one graph."""

from tensorworks.errors import FeedError, RangeError
from tensorworks.graphs import check_graph, input_places
from tensorworks.meaning import input_counts
from tensorworks.updating import batch_positions, mixed, step_graph

STEP_LIMIT = 20


def put_nodes(nodes, made, known):
    """Put nodes, but the known ones, behind those made so far; known has their places and gets those of all."""
    for at, (kind, args, info) in enumerate(nodes):
        if at not in known:
            made.append((kind, tuple([known[arg] for arg in args]), info))
            known[at] = len(made) - 1


def steps_graph(graph, parameters, rate, low, high, count):
    """Return the graph of so many steps: the last new parameters, and the losses."""
    nodes, outs = step_graph(graph, parameters, rate, low, high)
    if not 1 <= count <= STEP_LIMIT:
        raise RangeError("the number of steps is out of its range")
    places = input_places(nodes)
    made = []
    losses = []
    fresh = []
    for _ in range(count):
        # In the first step there are no new parameters, and the inputs themselves are taken.
        known = {places[position]: out for position, out in zip(parameters, fresh)}
        put_nodes(nodes, made, known)
        fresh = [known[out] for out in outs[:-1]]
        losses.append(known[outs[-1]])
    result = (tuple(made), tuple(fresh + losses))
    check_graph(result)
    return result


def steps_feeds(graph, parameters, weights, batches):
    """Return the feeds for weights and the batches of the steps."""
    check_graph(graph)
    many = len(input_counts(graph[0]))
    if len(weights) != len(parameters):
        raise FeedError("not as many weights as parameters")
    for batch in batches:
        if len(batch) != len(batch_positions(many, parameters)):
            raise FeedError("not as many tuples as batch inputs")
    feeds = mixed(many, parameters, weights, batches[0])
    for batch in batches[1:]:
        feeds = feeds + tuple(batch)
    return feeds
