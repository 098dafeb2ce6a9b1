"""Training on the accelerator, with a journal that leads back to where it was."""

from tensorworks.building import build
from tensorworks.errors import FeedError, JournalError, RangeError
from tensorworks.images import run_image
from tensorworks.journal import journal_line, read_line
from tensorworks.meaning import input_counts
from tensorworks.updating import mixed, step_graph


def check_weights(sizes, low, high, weights):
    """Raise the error of first weights that are not numbers from low to high for each parameter."""
    if len(weights) != len(sizes):
        raise FeedError("not as many weights as parameters")
    for size, row in zip(sizes, weights):
        if len(row) != size:
            raise FeedError("wrong number of numbers")
        if min(row) < low or max(row) > high:
            raise RangeError("a weight is out of its range")


class Trainer:
    """Weights that go down along the gradient of a loss, step by step."""

    def __init__(self, graph, parameters, *, rate, low, high, schedule, machine, weights):
        self.image = build(step_graph(graph, parameters, rate, low, high), schedule, machine)
        counts = input_counts(graph[0])
        self.parameters = parameters
        self.many = len(counts)
        self.sizes = tuple([counts[position] for position in parameters])
        self.low = low
        self.high = high
        check_weights(self.sizes, low, high, weights)
        self.first = weights
        self.now = weights
        self.lines = [journal_line(0, weights)]

    def step(self, batch, filler, delays):
        """Take one step with a batch and return the loss before it."""
        if len(batch) != self.many - len(self.parameters):
            raise FeedError("not as many tuples as batch inputs")
        feeds = mixed(self.many, self.parameters, self.now, batch)
        *fresh, loss = run_image(self.image, feeds, filler, delays)
        self.now = tuple(fresh)
        self.lines.append(journal_line(len(self.lines), self.now))
        return loss[0]

    def restore(self, weights, lines):
        """Go to weights that were reached with these lines of a journal."""
        self.now = weights
        self.lines = list(lines)

    @property
    def weights(self):
        """The weights as they are now."""
        return self.now

    @property
    def steps(self):
        """The number of steps so far."""
        return len(self.lines) - 1

    @property
    def journal(self):
        """The lines for the first weights and for each step."""
        return "".join(self.lines)


def check_line(trainer, number, line):
    """Return the weights that the line with a number tells, or raise the error of the line."""
    steps, weights = read_line(line, trainer.sizes)
    if steps != number:
        raise JournalError("the lines are not in order")
    for row in weights:
        if min(row) < trainer.low or max(row) > trainer.high:
            raise JournalError("a weight is out of its range")
    if number == 0 and weights != trainer.first:
        raise JournalError("the first weights are others")
    return weights


def resume(trainer, text):
    """Bring a trainer to where the whole lines of a journal lead, and return the number of steps."""
    lines = text.split("\n")[:-1]
    if not lines:
        raise JournalError("there is no whole line")
    told = [check_line(trainer, number, line) for number, line in enumerate(lines)]
    trainer.restore(told[-1], [line + "\n" for line in lines])
    return len(told) - 1
