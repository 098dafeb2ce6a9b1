"""The terms of the elements of all nodes of a graph."""

from tensorworks.carrying import all_rows
from tensorworks.graphs import check_graph, input_places
from tensorworks.shapes import count_of


def variable_row(table, number, domain):
    """Return the variables of the elements of the input with a number."""
    shape, low, high = domain
    return tuple([table.variable((number, at), low, high) for at in range(count_of(shape))])


def graph_terms(table, graph):
    """Return, for each node, the tuple of the terms of its elements."""
    domains = check_graph(graph)
    nodes = graph[0]
    places = input_places(nodes)
    fed = [variable_row(table, number, domains[place]) for number, place in enumerate(places)]
    return all_rows(table, nodes, domains, fed)
