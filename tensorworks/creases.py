"""One-sided slopes, and where they tell that there is no derivative."""

from tensorworks.carrying import all_rows, computed_row
from tensorworks.errors import RoughError, TooLarge
from tensorworks.graphs import check_graph, input_places, works_of
from tensorworks.kinds import limit
from tensorworks.meaning import Integers, check_feeds, check_tensors, input_counts
from tensorworks.reaching import is_rough, reached_nodes
from tensorworks.shapes import count_of

PARTIAL_LIMIT = 64
PARTIAL_WORK = 50000


def of_greater(a, b):
    """Return the one of two pairs with the greater value, and of equal ones that with the greater slope."""
    return a if a > b else b


def of_lesser(a, b):
    """Return the one of two pairs with the lesser value, and of equal ones that with the lesser slope."""
    return a if a < b else b


def clamped(pair, low, high):
    """Return a pair kept within an interval; at an end only a slope that leads inside stays."""
    value, slope = pair
    if low == high or value < low or value > high:
        return (limit(value, low, high), 0)
    if value == low:
        return (value, max(slope, 0))
    if value == high:
        return (value, min(slope, 0))
    return pair


class Slopes:
    """The table whose entries are pairs of a value and its right slope."""

    def number(self, n):
        """Return the entry of a number."""
        return (n, 0)

    def make(self, kind, pairs, info):
        """Return what a pointwise kind makes of entries."""
        if kind == "add":
            return (pairs[0][0] + pairs[1][0], pairs[0][1] + pairs[1][1])
        if kind == "sub":
            return (pairs[0][0] - pairs[1][0], pairs[0][1] - pairs[1][1])
        if kind == "mul":
            (a, slope), (b, other) = pairs
            return (a * b, slope * b + a * other)
        if kind == "neg":
            return (-pairs[0][0], -pairs[0][1])
        if kind == "max":
            return of_greater(pairs[0], pairs[1])
        if kind == "min":
            return of_lesser(pairs[0], pairs[1])
        if kind == "where":
            return pairs[1] if pairs[0][0] != 0 else pairs[2]
        return clamped(pairs[0], info[0], info[1])

    def pick(self, pairs, index):
        """Return the entry at an index."""
        return pairs[index[0]]


class Surface:
    """A graph near its feeds: its values there, from which slopes in all directions are made."""

    def __init__(self, graph, domains, feeds):
        self.nodes = graph[0]
        self.outs = graph[1]
        self.domains = domains
        self.places = input_places(graph[0])
        self.reached = reached_nodes(graph[0], self.places)
        # What is not reached has no slope in any direction.
        rows = all_rows(Integers(), graph[0], domains, feeds)
        self.still = [tuple([(n, 0) for n in row]) for row in rows]

    def right(self, direction):
        """Return the right slopes of the outputs along a direction."""
        rows = list(self.still)
        for place, way in zip(self.places, direction):
            rows[place] = tuple([(n, slope) for (n, _), slope in zip(rows[place], way)])
        table = Slopes()
        for at, node in enumerate(self.nodes):
            args = node[1]
            if self.reached[at] and args:
                shapes = [self.domains[arg][0] for arg in args]
                rows[at] = computed_row(table, node, shapes, self.domains[at][0], [rows[arg] for arg in args])
        return tuple([tuple([slope for _, slope in rows[out]]) for out in self.outs])

    def left(self, direction):
        """Return the left slopes of the outputs along a direction."""
        back = tuple([tuple([-n for n in way]) for way in direction])
        return tuple([tuple([-slope for slope in row]) for row in self.right(back)])


def check_no_rough(nodes):
    """Raise the error of a reached node that is rough."""
    reached = reached_nodes(nodes, input_places(nodes))
    if any([is_rough(node, reached) for node, here in zip(nodes, reached) if here]):
        raise RoughError("a node is rough")


def surface_of(graph, feeds, direction):
    """Return the graph near its feeds, if the direction is one of its inputs."""
    domains = check_graph(graph)
    check_no_rough(graph[0])
    check_feeds(graph[0], domains, feeds)
    check_tensors(input_counts(graph[0]), direction)
    return Surface(graph, domains, feeds)


def right_slopes(graph, feeds, direction):
    """Return the right slopes of the outputs."""
    return surface_of(graph, feeds, direction).right(direction)


def left_slopes(graph, feeds, direction):
    """Return the left slopes of the outputs."""
    return surface_of(graph, feeds, direction).left(direction)


def creases(graph, feeds, direction):
    """Return the pairs of an output's number and an element that has no derivative along the direction."""
    surface = surface_of(graph, feeds, direction)
    found = []
    for number, (right, left) in enumerate(zip(surface.right(direction), surface.left(direction))):
        found.extend([(number, at) for at, slope in enumerate(right) if slope != left[at]])
    return tuple(found)


def check_partials(graph, domains):
    """Raise the error of a graph for which it takes too long to go along each element of its inputs."""
    check_no_rough(graph[0])
    many = sum(input_counts(graph[0]))
    if many > PARTIAL_LIMIT or many * sum(works_of(graph[0], domains)) > PARTIAL_WORK:
        raise TooLarge("the inputs have too many elements")


def unit(counts, number, at):
    """Return the direction that is 1 at one element of one input and 0 everywhere else."""
    rows = [[0] * count for count in counts]
    rows[number][at] = 1
    return tuple([tuple(row) for row in rows])


def derivative(right, left):
    """Return what two slopes tell: the derivative, or None if there is none."""
    return right if right == left else None


def slopes_along(surface, counts):
    """Return for each input, for each of its elements, the pair of the right and the left slopes."""
    told = []
    for number, count in enumerate(counts):
        ways = [unit(counts, number, at) for at in range(count)]
        told.append([(surface.right(way), surface.left(way)) for way in ways])
    return told


def partials(graph, feeds):
    """Return the derivatives of the elements of the outputs along each element of each input."""
    domains = check_graph(graph)
    check_partials(graph, domains)
    check_feeds(graph[0], domains, feeds)
    told = slopes_along(Surface(graph, domains, feeds), input_counts(graph[0]))
    answers = []
    for number, out in enumerate(graph[1]):
        row = []
        for at in range(count_of(domains[out][0])):
            row.append(tuple([
                tuple([derivative(right[number][at], left[number][at]) for right, left in pairs]) for pairs in told]))
        answers.append(tuple(row))
    return tuple(answers)


def weighed(weights, rows):
    """Return the sum of weight times element."""
    return sum([sum([w * n for w, n in zip(weight, row)]) for weight, row in zip(weights, rows)])


def is_gradient(graph, feeds, weights, told):
    """Tell whether what is told are the derivatives of the sum of weight times element."""
    domains = check_graph(graph)
    check_partials(graph, domains)
    check_feeds(graph[0], domains, feeds)
    counts = input_counts(graph[0])
    check_tensors([count_of(domains[out][0]) for out in graph[1]], weights)
    check_tensors(counts, told)
    for row, pairs in zip(told, slopes_along(Surface(graph, domains, feeds), counts)):
        for n, (right, left) in zip(row, pairs):
            if weighed(weights, right) != n or weighed(weights, left) != n:
                return False
    return True
