"""The accelerator, run as a whole or step by step."""

from tensorworks.core import Core
from tensorworks.errors import FeedError, RangeError, Trap
from tensorworks.instructions import check_code
from tensorworks.machines import word_range


def check_words(machine, words, many):
    """Raise the error of words that do not fill a memory."""
    low, high = word_range(machine)
    if len(words) != many:
        raise FeedError("not as many words as the memory has")
    if min(words) < low or max(words) > high:
        raise FeedError("a word does not fit the machine")


def check_delays(delays):
    """Raise the error of delays that are not from 0 on."""
    if any([delay < 0 for delay in delays]):
        raise FeedError("a delay is negative")


def check_run(machine, code, main, near, delays):
    """Raise the error of what a device is made with."""
    check_code(machine, code)
    check_words(machine, main, machine[1])
    check_words(machine, near, machine[2])
    check_delays(delays)


def main_at_end(core):
    """Run a core to the end and return its main memory."""
    core.run_on()
    if not core.has_ended():
        raise Trap("an instruction traps")
    return tuple(core.main)


def run_code(machine, code, main, near, delays):
    """Return main memory at the end of the code."""
    check_run(machine, code, main, near, delays)
    return main_at_end(Core(machine, code, main, near, delays))


def item_of(row, k):
    """Return an item of a list."""
    if not 0 <= k < len(row):
        raise RangeError("there is no such slot, word or queue")
    return row[k]


class Device:
    """An accelerator that executes code step by step."""

    def __init__(self, machine, code, main, near, delays):
        check_run(machine, code, main, near, delays)
        self._core = Core(machine, code, main, near, delays)

    def step(self):
        """Execute the next instruction; return whether there was one that could be executed."""
        if self._core.doing is None:
            return False
        self._core.advance()
        return True

    @property
    def at(self):
        """The index of the next instruction."""
        return self._core.place

    @property
    def stopped(self):
        """Whether the next instruction traps."""
        return self._core.doing is None and self._core.place < len(self._core.code)

    def slot(self, k):
        """Return the word in a slot."""
        return item_of(self._core.slots, k)

    def main_word(self, k):
        """Return a word of main memory."""
        return item_of(self._core.main, k)

    def near_word(self, k):
        """Return a word of the near memory."""
        return item_of(self._core.near, k)

    def pending(self, q):
        """Return the number of pending transfers of a queue."""
        return len(item_of(self._core.queues, q))
