"""What a graph computes."""

from tensorworks.carrying import all_rows
from tensorworks.errors import FeedError, RangeError
from tensorworks.graphs import check_graph, input_places
from tensorworks.kinds import pointwise
from tensorworks.shapes import count_of


class Integers:
    """The table whose entries are the integers themselves."""

    def number(self, n):
        """Return the entry of a number."""
        return n

    def make(self, kind, values, info):
        """Return what a pointwise kind makes of entries."""
        return pointwise(kind, values, info)

    def pick(self, values, index):
        """Return the entry at an index."""
        return values[index]


def check_feeds(nodes, domains, feeds):
    """Raise the error of feeds that do not fit the inputs."""
    places = input_places(nodes)
    if len(feeds) != len(places):
        raise FeedError("not as many feeds as inputs")
    for place, feed in zip(places, feeds):
        shape, low, high = domains[place]
        if len(feed) != count_of(shape):
            raise FeedError("wrong number of elements")
        for n in feed:
            if not low <= n <= high:
                raise RangeError("an element is not in the interval of its input")


def input_counts(nodes):
    """Return the counts of the inputs, in order."""
    return [count_of(nodes[place][2][0]) for place in input_places(nodes)]


def check_tensors(counts, tensors):
    """Raise the error of tensors that do not have these counts."""
    if len(tensors) != len(counts):
        raise FeedError("not as many tensors as needed")
    for count, tensor in zip(counts, tensors):
        if len(tensor) != count:
            raise FeedError("wrong number of elements")


def evaluate_all(graph, feeds):
    """Return the values of all nodes."""
    domains = check_graph(graph)
    check_feeds(graph[0], domains, feeds)
    return all_rows(Integers(), graph[0], domains, feeds)


def evaluate(graph, feeds):
    """Return the values of the outputs."""
    values = evaluate_all(graph, feeds)
    return tuple([values[out] for out in graph[1]])
