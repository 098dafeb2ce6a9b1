"""A graph turned into a loop program."""

from tensorworks.affine import constant, less_form, moved_by, plus_form, times_form, variable_form
from tensorworks.carrying import steps_of
from tensorworks.errors import KeptError, TooLarge
from tensorworks.graphs import check_graph
from tensorworks.kinds import POINTWISE
from tensorworks.loops import LEVEL_LIMIT, check_program
from tensorworks.shapes import count_of, size_of

SOURCES = ("input", "const")
REDUCING = ("sum", "peak", "dot", "fold")
MOVING = ("order", "rename", "spread", "cut", "window")


def must_keep(graph):
    """Return a dict whose keys are the computed nodes that have to be kept."""
    nodes, outs = graph
    needed = {out: True for out in outs}
    for at, (kind, args, _) in enumerate(nodes):
        if kind in REDUCING:
            needed[at] = True
        if kind == "gather":
            needed[args[0]] = True
    return {at: True for at in needed if nodes[at][0] not in SOURCES}


def check_kept(graph, kept):
    """Raise the error of nodes that cannot be the kept ones."""
    nodes = graph[0]
    before = -1
    for at in kept:
        if not before < at < len(nodes) or nodes[at][0] in SOURCES:
            raise KeptError("the kept nodes are not ascending computed nodes")
        before = at
    chosen = {at: True for at in kept}
    if any([at not in chosen for at in must_keep(graph)]):
        raise KeptError("a node that must be kept is not")


def places_of(nodes, kept):
    """Return the buffer of each node, or None for one that has none."""
    sources = [at for at, node in enumerate(nodes) if node[0] in SOURCES]
    buffers = {at: buffer for buffer, at in enumerate(sources + list(kept))}
    return tuple([buffers.get(at) for at in range(len(nodes))])


def value_levels(node, levels):
    """Return how many levels the expression of the value of a node has, given those of its args."""
    kind, args, _ = node
    if kind in POINTWISE:
        return 1 + max([levels[arg] for arg in args])
    if kind == "pad":
        return 2 + levels[args[0]]
    if kind == "join":
        return 1 + max(levels[args[0]], levels[args[1]])
    if kind == "gather":
        return 1 + levels[args[1]]
    return levels[args[0]]


def stored_levels(node, levels, shapes):
    """Return how many levels the deepest expression has that makes a kept node."""
    kind, args, info = node
    if kind == "dot":
        return 2 + max(levels[args[0]], levels[args[1]])
    if kind in ("sum", "fold"):
        return 1 + levels[args[0]]
    if kind == "peak":
        return levels[args[0]] + (1 if size_of(shapes[args[0]], info[0]) > 1 else 0)
    return value_levels(node, levels)


def check_levels(nodes, shapes, places):
    """Raise the error of expressions that would have too many levels."""
    levels = []
    for at, node in enumerate(nodes):
        if places[at] is None:
            levels.append(value_levels(node, levels))
            continue
        if node[0] not in SOURCES and stored_levels(node, levels, shapes) > LEVEL_LIMIT:
            raise TooLarge("an expression would have too many levels")
        levels.append(1)


def loops_around(axes, first, statements):
    """Return loops over axes, the first one outermost, with variables from the first one on."""
    body = tuple(statements)
    for at in range(len(axes) - 1, -1, -1):
        body = (("loop", first + at, 0, 1, axes[at][1], body),)
    return body


def loop_forms(shape):
    """Return the form of each letter in a nest of a shape: the variable of its loop."""
    return {letter: variable_form(at) for at, (letter, _) in enumerate(shape)}


def apply_of(kind, exprs, info):
    """Return the expression of a pointwise kind."""
    return ("apply", kind, tuple(exprs), info)


class Lowering:
    """Makes the statements that store nodes."""

    def __init__(self, nodes, shapes, places):
        self.nodes = nodes
        self.shapes = shapes
        self.places = places
        self.made = {}

    def word(self, at, forms):
        """Return the form of the position of the element of a node at the forms of its letters."""
        steps = steps_of(self.shapes[at])
        form = constant(0)
        for letter, _ in self.shapes[at]:
            form = plus_form(form, times_form(forms[letter], steps[letter]))
        return form

    def element(self, at, forms):
        """Return the expression of the element of a node."""
        # Nodes that only move elements can stand in long rows, so they are not gone through by calls.
        while self.places[at] is None and self.nodes[at][0] in MOVING:
            forms = self.moved(at, forms)
            at = self.nodes[at][1][0]
        if self.places[at] is not None:
            return ("load", self.places[at], self.word(at, forms))
        # One expression serves wherever it is the same, since it can stand in thousands of places.
        key = (at, tuple([forms[letter] for letter, _ in self.shapes[at]]))
        if key not in self.made:
            self.made[key] = self.value(at, forms)
        return self.made[key]

    def moved(self, at, forms):
        """Return the forms of the letters of the arg of a node that only moves elements."""
        kind, _, info = self.nodes[at]
        if kind == "rename":
            return {**forms, info[0]: forms[info[1]]}
        if kind == "cut":
            return {**forms, info[0]: moved_by(forms[info[0]], info[1])}
        if kind == "window":
            axis, new, _, stride = info
            return {**forms, axis: plus_form(times_form(forms[axis], stride), forms[new])}
        return forms

    def value(self, at, forms):
        """Return the expression of what a node makes of the elements of its args."""
        kind, args, info = self.nodes[at]
        if kind in POINTWISE:
            return apply_of(kind, [self.element(arg, forms) for arg in args], info)
        if kind == "pad":
            return self.pad_value(at, forms)
        if kind == "join":
            return self.join_value(at, forms)
        if kind == "gather":
            return self.gather_value(at, forms)
        return self.element(args[0], self.moved(at, forms))

    def pad_value(self, at, forms):
        _, args, (axis, before, _) = self.nodes[at]
        size = size_of(self.shapes[args[0]], axis)
        place = moved_by(forms[axis], -before)
        inner = self.element(args[0], {**forms, axis: place})
        zero = ("number", 0)
        return ("guard", place, ("guard", less_form(constant(size - 1), place), inner, zero), zero)

    def join_value(self, at, forms):
        _, args, (axis,) = self.nodes[at]
        size = size_of(self.shapes[args[0]], axis)
        place = forms[axis]
        behind = self.element(args[1], {**forms, axis: moved_by(place, -size)})
        return ("guard", less_form(constant(size - 1), place), self.element(args[0], forms), behind)

    def gather_value(self, at, forms):
        _, args, (axis,) = self.nodes[at]
        shape = self.shapes[args[0]]
        start = self.word(args[0], {**forms, axis: constant(0)})
        index = self.element(args[1], forms)
        return ("pick", self.places[args[0]], start, steps_of(shape)[axis], size_of(shape, axis), index)

    def statements(self, at):
        """Return the statements that store a node."""
        kind = self.nodes[at][0]
        if kind in ("sum", "dot"):
            return self.sum_statements(at)
        if kind == "peak":
            return self.peak_statements(at)
        if kind == "fold":
            return self.fold_statements(at)
        forms = loop_forms(self.shapes[at])
        put = ("put", self.places[at], self.word(at, forms), self.value(at, forms))
        return loops_around(self.shapes[at], 0, (put,))

    def put_with(self, at, place, kind, worth):
        """Return the statement that puts what a kind makes of a word and a value at this word."""
        buffer = self.places[at]
        return ("put", buffer, place, apply_of(kind, (("load", buffer, place), worth), ()))

    def sum_statements(self, at):
        kind, args, (axis,) = self.nodes[at]
        shape = self.shapes[at]
        forms = loop_forms(shape)
        place = self.word(at, forms)
        inner = {**forms, axis: variable_form(len(shape))}
        worths = [self.element(arg, inner) for arg in args]
        worth = worths[0] if kind == "sum" else apply_of("mul", worths, ())
        over = ((axis, size_of(self.shapes[args[0]], axis)),)
        adding = loops_around(over, len(shape), (self.put_with(at, place, "add", worth),))
        return loops_around(shape, 0, (("put", self.places[at], place, ("number", 0)),) + adding)

    def peak_statements(self, at):
        _, args, (axis,) = self.nodes[at]
        shape = self.shapes[at]
        forms = loop_forms(shape)
        place = self.word(at, forms)
        size = size_of(self.shapes[args[0]], axis)
        first = self.element(args[0], {**forms, axis: constant(0)})
        body = (("put", self.places[at], place, first),)
        if size > 1:
            worth = self.element(args[0], {**forms, axis: variable_form(len(shape))})
            body += (("loop", len(shape), 1, 1, size - 1, (self.put_with(at, place, "max", worth),)),)
        return loops_around(shape, 0, body)

    def fold_statements(self, at):
        _, args, (axis, second, stride, _) = self.nodes[at]
        own = loop_forms(self.shapes[at])
        clearing = loops_around(self.shapes[at], 0, (("put", self.places[at], self.word(at, own), ("number", 0)),))
        forms = loop_forms(self.shapes[args[0]])
        worth = self.element(args[0], forms)
        place = self.word(at, {**forms, axis: plus_form(times_form(forms[axis], stride), forms[second])})
        return clearing + loops_around(self.shapes[args[0]], 0, (self.put_with(at, place, "add", worth),))


def buffers_of(nodes, shapes, kept):
    """Return the buffers: those of the inputs and consts, and then those of the kept nodes."""
    given = [("in", count_of(shape)) for node, shape in zip(nodes, shapes) if node[0] in SOURCES]
    return tuple(given + [("main", count_of(shapes[at])) for at in kept])


def lower(graph, kept):
    """Return the loop program of a graph, and the buffer of each node or None."""
    domains = check_graph(graph)
    check_kept(graph, kept)
    nodes = graph[0]
    shapes = [domain[0] for domain in domains]
    places = places_of(nodes, kept)
    check_levels(nodes, shapes, places)
    lowering = Lowering(nodes, shapes, places)
    body = []
    for at in kept:
        body.extend(lowering.statements(at))
    program = (buffers_of(nodes, shapes, kept), tuple(body))
    check_program(program)
    return (program, places)
