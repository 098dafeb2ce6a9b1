"""The values of a graph, kept up to date while its inputs change."""

from tensorworks.carrying import computed_row
from tensorworks.errors import FeedError, RangeError, TextError
from tensorworks.graphs import check_graph, input_places
from tensorworks.meaning import Integers, evaluate_all
from tensorworks.notation import DIGIT_LIMIT
from tensorworks.numerals import is_natural, read_integer
from tensorworks.reaching import reached_nodes
from tensorworks.shapes import count_of

CHANGE_WORD = "change"
MARK = ";"


def change_line(changes):
    """Return the line of the journal for changes."""
    words = [CHANGE_WORD]
    for k, tensor in changes:
        words.extend([MARK, str(k)])
        words.extend([str(n) for n in tensor])
    return " ".join(words) + "\n"


def check_numbers(numbers, many):
    """Raise the error of numbers that are not ascending ones of so many inputs."""
    before = -1
    for k in numbers:
        if not before < k < many:
            raise RangeError("not ascending numbers of inputs")
        before = k


class Session:
    """The values of all nodes of a graph for feeds that can be changed."""

    def __init__(self, graph, feeds):
        self.rows = evaluate_all(graph, feeds)
        self.nodes, self.outs = graph
        self.domains = check_graph(graph)
        self.places = input_places(self.nodes)
        self.worked = len([node for node in self.nodes if node[1]])
        # Pairs of the values ahead of a change and its line; of the values behind a change taken back and its line.
        self.past = []
        self.future = []

    def check(self, changes):
        """Raise the error of changes."""
        check_numbers([k for k, _ in changes], len(self.places))
        for k, tensor in changes:
            shape, low, high = self.domains[self.places[k]]
            if len(tensor) != count_of(shape):
                raise FeedError("wrong number of elements")
            if min(tensor) < low or max(tensor) > high:
                raise RangeError("an element is not in the interval of its input")

    def row_of(self, at, rows):
        """Return the elements of a computed node, given the values of the nodes before it."""
        args = self.nodes[at][1]
        shapes = [self.domains[arg][0] for arg in args]
        return computed_row(Integers(), self.nodes[at], shapes, self.domains[at][0], [rows[arg] for arg in args])

    def change(self, changes):
        """Change inputs; return how many nodes were evaluated anew."""
        self.check(changes)
        rows = list(self.rows)
        for k, tensor in changes:
            rows[self.places[k]] = tensor
        anew = 0
        differs = []
        for at, (_, args, _) in enumerate(self.nodes):
            if any([differs[arg] for arg in args]):
                rows[at] = self.row_of(at, rows)
                anew += 1
            differs.append(rows[at] != self.rows[at])
        self.past.append((self.rows, change_line(changes)))
        self.future = []
        self.rows = tuple(rows)
        self.worked = self.worked + anew
        return anew

    def undo(self):
        """Take back the last change; return False if there is none."""
        if not self.past:
            return False
        before, line = self.past.pop()
        self.future.append((self.rows, line))
        self.rows = before
        return True

    def redo(self):
        """Make the change again that was taken back last; return False if there is none."""
        if not self.future:
            return False
        behind, line = self.future.pop()
        self.past.append((self.rows, line))
        self.rows = behind
        return True

    @property
    def tensors(self):
        """The values of all nodes."""
        return self.rows

    @property
    def answers(self):
        """The values of the outputs."""
        return tuple([self.rows[out] for out in self.outs])

    @property
    def evaluated(self):
        """The number of nodes evaluated so far."""
        return self.worked

    @property
    def journal(self):
        """The lines of the changes that were made and not taken back."""
        return "".join([line for _, line in self.past])


def reached_from(graph, inputs):
    """Return the computed nodes to which a row of args leads from one of the inputs."""
    check_graph(graph)
    nodes = graph[0]
    places = input_places(nodes)
    check_numbers(inputs, len(places))
    reached = reached_nodes(nodes, [places[k] for k in inputs])
    return tuple([at for at, (_, args, _) in enumerate(nodes) if reached[at] and args])


def read_change(line):
    """Return the changes that a line, without its line feed, tells."""
    head, *groups = line.split(" " + MARK + " ")
    if head != CHANGE_WORD:
        raise TextError("not a line of changes")
    changes = []
    for group in groups:
        k, *words = group.split(" ")
        if not is_natural(k, DIGIT_LIMIT):
            raise TextError("not the number of an input")
        changes.append((int(k), tuple([read_integer(word, DIGIT_LIMIT) for word in words])))
    return tuple(changes)


def replay_changes(session, text):
    """Make the changes of a journal; return how many nodes were evaluated anew."""
    *lines, rest = text.split("\n")
    if rest:
        raise TextError("the text does not end with a line feed")
    told = []
    for line in lines:
        changes = read_change(line)
        session.check(changes)
        told.append(changes)
    return sum([session.change(changes) for changes in told])
