"""Loop programs executed on terms, and whether two of them leave the same in main memory."""

from tensorworks.executing import executed
from tensorworks.kinds import WIDTH_LIMIT
from tensorworks.terms import Terms


class TermWords:
    """The table whose words are the ids of terms."""

    def __init__(self, terms):
        self.terms = terms

    def number(self, n):
        """Return the word of a number."""
        return self.terms.number(n)

    def make(self, kind, ids, info):
        """Return what a pointwise kind makes of words."""
        return self.terms.make(kind, ids, info)

    def choice(self, value, count):
        """Return the numbers of the words that a pick reads, and which of these it chooses."""
        return (tuple(range(count)), self.terms.make("clamp", (value,), (0, count - 1)))

    def chosen(self, words, which):
        """Return the chosen one of the words that were read."""
        return self.terms.pick(tuple(words), which)


def program_terms(table, program, given):
    """Return the terms of all buffers at the end."""
    return executed(TermWords(table), program, given)


def free_words(table, program):
    """Return a variable for each word that is given to a program."""
    sizes = [size for role, size in program[0] if role == "in"]
    bound = 1 << WIDTH_LIMIT
    return [[table.variable((k, e), -bound, bound) for e in range(size)] for k, size in enumerate(sizes)]


def main_terms(table, program):
    """Return the terms of the words of the buffers with the role main, whatever words are given."""
    rows = program_terms(table, program, free_words(table, program))
    return [row for (role, _), row in zip(program[0], rows) if role == "main"]


def agree(first, second):
    """Tell whether two programs leave the same words in main memory."""
    table = Terms()
    rows = main_terms(table, first)
    others = main_terms(table, second)
    lists = [[buffer for buffer in program[0] if buffer[0] != "near"] for program in (first, second)]
    return lists[0] == lists[1] and rows == others
