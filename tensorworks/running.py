"""Loop programs executed on numbers."""

from tensorworks.errors import TooWide
from tensorworks.executing import executed
from tensorworks.kinds import limit, pointwise
from tensorworks.terms import is_bounded


class Numbers:
    """The table whose words are the numbers themselves."""

    def number(self, n):
        """Return the word of a number."""
        return n

    def make(self, kind, values, info):
        """Return what a pointwise kind makes of words."""
        n = pointwise(kind, values, info)
        if not is_bounded(n):
            raise TooWide("a value is too far from 0")
        return n

    def choice(self, value, count):
        """Return the numbers of the words that a pick reads, and which of these it chooses."""
        return ((limit(value, 0, count - 1),), 0)

    def chosen(self, words, which):
        """Return the chosen one of the words that were read."""
        return words[which]


def run_program(program, given):
    """Return the words of all buffers at the end."""
    return executed(Numbers(), program, given)
