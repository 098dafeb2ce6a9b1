"""Training with marks to which it can go back."""

from tensorworks.errors import MarkError
from tensorworks.notation import LETTERS
from tensorworks.trainer import Trainer

MARK_LIMIT = 50
NAME_LIMIT = 20


def check_name(name):
    """Raise the error of a name that is not of 1 to 20 small letters."""
    if not 1 <= len(name) <= NAME_LIMIT or any([sign not in LETTERS for sign in name]):
        raise MarkError("not a name for a mark")


class Course:
    """A trainer with marks."""

    def __init__(self, graph, parameters, *, rate, low, high, schedule, machine, weights):
        self.trainer = Trainer(
            graph, parameters, rate=rate, low=low, high=high, schedule=schedule, machine=machine, weights=weights)
        self.gone = []
        # Triples of a name, the number of steps and the weights, the oldest first.
        self.known = []

    def step(self, batch, filler, delays):
        """Take one step with a batch and return the loss before it."""
        loss = self.trainer.step(batch, filler, delays)
        self.gone.append(loss)
        return loss

    def place_of(self, name):
        """Return the place of a mark among the marks."""
        for place, (other, _, _) in enumerate(self.known):
            if other == name:
                return place
        raise MarkError("there is no such mark")

    def mark(self, name):
        """Mark the state as it is now."""
        check_name(name)
        if name in [other for other, _, _ in self.known]:
            raise MarkError("there is a mark with this name")
        if len(self.known) >= MARK_LIMIT:
            raise MarkError("there are too many marks")
        self.known.append((name, self.trainer.steps, self.trainer.weights))

    def back(self, name):
        """Go back to a mark; return how many steps were taken back."""
        place = self.place_of(name)
        _, steps, weights = self.known[place]
        taken = self.trainer.steps - steps
        self.trainer.restore(weights, self.trainer.lines[:steps + 1])
        self.gone = self.gone[:steps]
        self.known = self.known[:place + 1]
        return taken

    def erase(self, name):
        """Take a mark away."""
        del self.known[self.place_of(name)]

    @property
    def weights(self):
        """The weights as they are now."""
        return self.trainer.weights

    @property
    def steps(self):
        """The number of steps so far."""
        return self.trainer.steps

    @property
    def journal(self):
        """The journal of the trainer."""
        return self.trainer.journal

    @property
    def losses(self):
        """The losses of the steps so far."""
        return tuple(self.gone)

    @property
    def marks(self):
        """The pairs of the name of a mark and its number of steps."""
        return tuple([(name, steps) for name, steps, _ in self.known])
