"""Images: graphs turned into code for a machine, with the places of everything in main memory."""

from tensorworks.agreeing import TermWords
from tensorworks.changes import apply_change
from tensorworks.errors import NoRoom, TooWide
from tensorworks.executing import executed
from tensorworks.generating import SPARE, generated
from tensorworks.graph_terms import variable_row
from tensorworks.graphs import check_graph, input_places
from tensorworks.lives import lives
from tensorworks.loops import body_of, parts_of
from tensorworks.lowering import lower
from tensorworks.machines import check_machine, word_range
from tensorworks.placing import check_places
from tensorworks.rewriting import replay
from tensorworks.terms import Terms


class Image:
    """Code for a machine that computes a graph, and where its inputs, constants and outputs stand."""

    def __init__(self, graph, program, machine, code, inputs, constants, outputs, words):
        self.graph = graph
        self.program = program
        self.machine = machine
        self.code = code
        self.inputs = inputs
        self.constants = constants
        self.outputs = outputs
        self.words = words


class FittingWords(TermWords):
    """The table of terms that refuses to make one that may not fit a machine."""

    def __init__(self, terms, ends):
        TermWords.__init__(self, terms)
        self.ends = ends

    def make(self, kind, ids, info):
        """Return what a pointwise kind makes of words."""
        made = self.terms.make(kind, ids, info)
        check_ends(self.ends, self.terms.span(made))
        return made


def check_ends(ends, span):
    """Raise the error of an interval that does not lie in the one of the words of a machine."""
    if span[0] < ends[0] or span[1] > ends[1]:
        raise TooWide("a number may not fit the machine")


def check_clamps(ends, expr):
    """Raise the error of a clamp in an expression with a field that does not fit."""
    if expr[0] == "apply" and expr[1] == "clamp":
        check_ends(ends, expr[3])
    for part in parts_of(expr):
        check_clamps(ends, part)


def check_body_clamps(ends, body):
    """Raise the error of a clamp in statements with a field that does not fit."""
    for statement in body:
        if statement[0] == "put":
            check_clamps(ends, statement[3])
        check_body_clamps(ends, body_of(statement))


def given_terms(table, graph, domains):
    """Return the terms of the inputs and consts of a graph, in order."""
    rows = []
    inputs = 0
    for (kind, _, info), domain in zip(graph[0], domains):
        if kind == "input":
            rows.append(variable_row(table, inputs, domain))
            inputs += 1
        if kind == "const":
            rows.append(tuple([table.number(n) for n in info[1]]))
    return tuple(rows)


def check_widths(graph, domains, program, machine):
    """Raise the error of numbers that may not fit the machine."""
    ends = word_range(machine)
    for (kind, _, _), domain in zip(graph[0], domains):
        if kind in ("input", "const"):
            check_ends(ends, domain[1:])
    check_body_clamps(ends, program[1])
    table = Terms()
    executed(FittingWords(table, ends), program, given_terms(table, graph, domains))


def sizes_of(program, role):
    """Return the sizes of the buffers with a role."""
    return tuple([size for here, size in program[0] if here == role])


def layout_of(program, places):
    """Return the address of each buffer; places are those with the role main, counted behind the given words."""
    following = {"in": 0, "near": 0}
    given = sum(sizes_of(program, "in"))
    mains = 0
    layout = []
    for role, size in program[0]:
        if role == "main":
            layout.append(given + places[mains])
            mains += 1
        else:
            layout.append(following[role])
            following[role] += size
    return tuple(layout)


def check_room(program, machine, used):
    """Raise the error of buffers for which there is no room, and return the number of words of main memory."""
    words = sum(sizes_of(program, "in")) + used
    if words > machine[1] or sum(sizes_of(program, "near")) + SPARE > machine[2]:
        raise NoRoom("there is not enough memory")
    return words


def constants_of(graph, addresses):
    """Return the pairs of the address and the word of each datum."""
    pairs = []
    for at, (kind, _, info) in enumerate(graph[0]):
        if kind == "const":
            pairs.extend([(addresses[at] + k, n) for k, n in enumerate(info[1])])
    return tuple(pairs)


def image_of(graph, program, buffers, machine, layout, words):
    """Return the image of a program whose buffers stand at the addresses of a layout."""
    addresses = [None if buffer is None else layout[buffer] for buffer in buffers]
    return Image(
        graph, program, machine, generated(program, layout, sum(sizes_of(program, "near"))),
        tuple([addresses[at] for at in input_places(graph[0])]), constants_of(graph, addresses),
        tuple([addresses[out] for out in graph[1]]), words)


def build(graph, schedule, machine):
    """Return the image of a graph."""
    check_graph(graph)
    check_machine(machine)
    steps, kept, changes, places = schedule
    graph = replay(graph, steps)
    domains = check_graph(graph)
    program, buffers = lower(graph, kept)
    for change in changes:
        program = apply_change(program, change)
    check_widths(graph, domains, program, machine)
    outs = tuple([buffers[out] for out in graph[1]])
    used = check_places(lives(program, outs), sizes_of(program, "main"), places)
    words = check_room(program, machine, used)
    return image_of(graph, program, buffers, machine, layout_of(program, places), words)
