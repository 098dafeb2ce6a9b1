"""The graph of one step of descent along a gradient."""

from tensorworks.drafts import put_number
from tensorworks.errors import FormError, RangeError
from tensorworks.gradients import copied, put_answers
from tensorworks.graphs import check_graph, input_places

FASTEST = 1
SLOWEST = 30


def check_trainable(graph, domains):
    """Raise the error of a graph that has no input or not one number as its loss."""
    nodes, outs = graph
    if not input_places(nodes):
        raise FormError("there is no input")
    if len(outs) != 1:
        raise FormError("there is not exactly one output")
    if domains[outs[0]][0]:
        raise FormError("the loss is not one number")


def check_positions(parameters, many):
    """Raise the error of parameters that are not ascending positions of so many inputs."""
    if not parameters:
        raise RangeError("there are no parameters")
    before = -1
    for position in parameters:
        if not before < position < many:
            raise RangeError("the parameters are not ascending positions of inputs")
        before = position


def check_descent(graph, domains, parameters, rate, low, high):
    """Raise the error of a step of descent that cannot be told."""
    check_trainable(graph, domains)
    places = input_places(graph[0])
    check_positions(parameters, len(places))
    if not FASTEST <= rate <= SLOWEST or low > high:
        raise RangeError("the rate, or the interval of the parameters, is out of its range")
    for position in parameters:
        _, least, most = domains[places[position]]
        if low < least or high > most:
            raise RangeError("the interval is wider than that of a parameter")


def batch_positions(many, parameters):
    """Return the positions of the inputs, so many, that are no parameters."""
    return [position for position in range(many) if position not in parameters]


def mixed(many, parameters, weights, batch):
    """Return the feeds of all inputs, in order: those of the parameters and those of the others."""
    fed = {position: row for position, row in zip(parameters, weights)}
    for position, row in zip(batch_positions(many, parameters), batch):
        fed[position] = row
    return tuple([fed[position] for position in range(many)])


def put_step(draft, place, slope, rate, low, high):
    """Put the new parameter for an input and its gradient."""
    change = draft.put("shift", (slope,), (rate,))
    moved = draft.put("sub", (place, change), ())
    return draft.put("clamp", (moved,), (low, high))


def step_graph(graph, parameters, rate, low, high):
    """Return the graph of one step: the new parameters, and the loss."""
    domains = check_graph(graph)
    check_descent(graph, domains, parameters, rate, low, high)
    nodes, outs = graph
    draft = copied(nodes)
    answers = put_answers(draft, nodes, [(outs[0], put_number(draft, 1))])
    places = input_places(nodes)
    fresh = [put_step(draft, places[position], answers[position], rate, low, high) for position in parameters]
    result = (tuple(draft.nodes), tuple(fresh) + outs)
    check_graph(result)
    return result
