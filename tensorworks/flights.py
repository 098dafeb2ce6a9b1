"""Memories whose words hold terms, and the transfers in flight between them."""

from tensorworks.errors import NeverSet, Outside, Racing


class Memory:
    """Words that hold terms or None, and how often each is in the target or source of a transfer in flight."""

    def __init__(self, words):
        self.words = list(words)
        self.targets = [0] * len(words)
        self.sources = [0] * len(words)

    def check_inside(self, places):
        """Raise the error of places of which one is outside."""
        size = len(self.words)
        for place in places:
            if not 0 <= place < size:
                raise Outside("a word is outside of its memory")

    def check_landed(self, places):
        """Raise the error of places of which one may still be set by a transfer."""
        for place in places:
            if self.targets[place]:
                raise Racing("a transfer may still set a word")

    def check_unread(self, places):
        """Raise the error of places of which one may still be read by a transfer."""
        for place in places:
            if self.sources[place]:
                raise Racing("a transfer may still read a word")

    def terms_at(self, places):
        """Return the terms that words at places hold."""
        terms = [self.words[place] for place in places]
        if None in terms:
            raise NeverSet("a word is read that is not set")
        return terms


def check_row(memory, start, count):
    """Raise the error of words in a row of which one is outside."""
    if start < 0 or start + count > len(memory.words):
        raise Outside("a word is outside of its memory")


def mark_row(marks, start, count, change):
    """Change the marks of words in a row."""
    if count == 1:
        marks[start] += change
    else:
        marks[start:start + count] = [mark + change for mark in marks[start:start + count]]


class Flights:
    """The transfers in flight, queue by queue."""

    def __init__(self, many):
        self.queues = [[] for _ in range(many)]

    def issue(self, q, source, first, target, start, count):
        """Carry out a transfer whose words are inside, and count its words as in flight."""
        end = first + count
        behind = start + count
        if any(source.targets[first:end]) or any(target.targets[start:behind]) or any(target.sources[start:behind]):
            raise Racing("another transfer may still be going on")
        taken = source.words[first:end]
        if None in taken:
            raise NeverSet("a word is read that is not set")
        target.words[start:behind] = taken
        mark_row(source.sources, first, count, 1)
        mark_row(target.targets, start, count, 1)
        self.queues[q].append((source, first, target, start, count))

    def wait_for(self, q):
        """Count the words of the transfers of a queue as in flight no longer."""
        for source, first, target, start, count in self.queues[q]:
            mark_row(source.sources, first, count, -1)
            mark_row(target.targets, start, count, -1)
        self.queues[q] = []
