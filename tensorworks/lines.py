"""Graphs along a line of feeds: the coefficients of polynomials."""

from tensorworks.carrying import all_rows
from tensorworks.errors import RoughError, TooLarge
from tensorworks.graphs import check_graph, input_places
from tensorworks.kinds import pointwise
from tensorworks.meaning import check_feeds, check_tensors, input_counts
from tensorworks.reaching import is_smooth, reached_nodes

DEGREE_LIMIT = 24


def trimmed(coefficients):
    """Return the tuple of coefficients without zeros at its end."""
    many = len(coefficients)
    while many and coefficients[many - 1] == 0:
        many = many - 1
    return tuple(coefficients[:many])


def constant(n):
    """Return the coefficients of a number."""
    return (n,) if n else ()


def number_in(coefficients):
    """Return the number that a polynomial without t is."""
    return coefficients[0] if coefficients else 0


def sum_of(a, b):
    """Return the coefficients of the sum of two polynomials."""
    if len(a) < len(b):
        return sum_of(b, a)
    made = [x + y for x, y in zip(a, b)]
    return trimmed(made + list(a[len(b):]))


def opposite(a):
    """Return the coefficients of the opposite of a polynomial."""
    return tuple([-x for x in a])


def product_of(a, b):
    """Return the coefficients of the product of two polynomials."""
    if not a or not b:
        return ()
    # The last one is not 0, since those of both are not.
    made = [0] * (len(a) + len(b) - 1)
    for at, x in enumerate(a):
        for place, y in enumerate(b):
            made[at + place] += x * y
    return tuple(made)


class Polynomials:
    """The table whose entries are polynomials in t; what chooses among others is a number."""

    def number(self, n):
        """Return the entry of a number."""
        return constant(n)

    def make(self, kind, parts, info):
        """Return what a pointwise kind makes of entries."""
        if kind == "add":
            return sum_of(parts[0], parts[1])
        if kind == "sub":
            return sum_of(parts[0], opposite(parts[1]))
        if kind == "mul":
            return product_of(parts[0], parts[1])
        if kind == "neg":
            return opposite(parts[0])
        if kind == "where":
            return parts[1] if parts[0] else parts[2]
        return constant(pointwise(kind, tuple([number_in(part) for part in parts]), info))

    def pick(self, parts, index):
        """Return the entry at an index."""
        return parts[number_in(index)]


def degree_of(node, degrees):
    """Return the degree of a reached node; one that is not reached has the degree 0."""
    kind, args, _ = node
    if kind == "input":
        return 1
    if kind in ("mul", "dot"):
        return degrees[args[0]] + degrees[args[1]]
    # What chooses among others is not reached and has the degree 0.
    return max([degrees[arg] for arg in args])


def check_degrees(nodes, reached):
    """Raise the error of a node whose degree is too high."""
    degrees = []
    for at, node in enumerate(nodes):
        degrees.append(degree_of(node, degrees) if reached[at] else 0)
        if degrees[at] > DEGREE_LIMIT:
            raise TooLarge("the degree of a node is too high")


def line_terms(graph, feeds, direction):
    """Return the coefficients of the elements of the outputs along a line."""
    domains = check_graph(graph)
    nodes, outs = graph
    reached = reached_nodes(nodes, input_places(nodes))
    if not all([is_smooth(node, reached) for node, here in zip(nodes, reached) if here]):
        raise RoughError("a node is not smooth")
    check_degrees(nodes, reached)
    check_feeds(nodes, domains, feeds)
    check_tensors(input_counts(nodes), direction)
    fed = [tuple([trimmed(pair) for pair in zip(feed, way)]) for feed, way in zip(feeds, direction)]
    rows = all_rows(Polynomials(), nodes, domains, fed)
    return tuple([rows[out] for out in outs])


def value_of(coefficients, t):
    """Return the value of a polynomial at an integer."""
    value = 0
    for coefficient in reversed(coefficients):
        value = value * t + coefficient
    return value


def value_at(terms, t):
    """Return the values of the outputs at an integer."""
    return tuple([tuple([value_of(coefficients, t) for coefficients in row]) for row in terms])
