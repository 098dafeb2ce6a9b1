"""Executing a loop program on words that are numbers or terms.

The words are made by a table with the methods number, make, choice and chosen; choice tells which of
the words of a pick are read, and chosen which one of these it is.
"""

from tensorworks.errors import FeedError, RangeError, UnsetWord
from tensorworks.loops import check_program


def check_given(program, given):
    """Raise the error of given words that do not fill the buffers for them."""
    sizes = [size for role, size in program[0] if role == "in"]
    if len(given) != len(sizes):
        raise FeedError("not as many tuples as buffers")
    for words, size in zip(given, sizes):
        if len(words) != size:
            raise FeedError("not as many words as the buffer has")


def first_words(buffers, given):
    """Return a list with the list of the words of each buffer at the start."""
    rows = []
    used = 0
    for role, size in buffers:
        if role == "in":
            rows.append(list(given[used]))
            used += 1
        else:
            rows.append([None] * size)
    return rows


def word_at(row, place):
    """Return a word of a buffer."""
    if not 0 <= place < len(row):
        raise RangeError("a word is outside of its buffer")
    word = row[place]
    if word is None:
        raise UnsetWord("a word is read that is not set")
    return word


def copy_words(target, start, source, first, count):
    """Set words of one buffer to words of another one."""
    if start < 0 or start + count > len(target) or first < 0 or first + count > len(source):
        raise RangeError("a word is outside of its buffer")
    taken = source[first:first + count]
    if None in taken:
        raise UnsetWord("a word is read that is not set")
    target[start:start + count] = taken


class Runner:
    """Makes functions of the statements and expressions of a program, and calls them."""

    def __init__(self, table, buffers, given):
        self.table = table
        self.counters = {}
        self.rows = first_words(buffers, given)

    def run_body(self, body):
        """Execute statements."""
        for action in self.body_actions(body):
            action()

    def body_actions(self, body):
        """Return a list of functions that execute statements."""
        return [self.action_of(statement) for statement in body]

    def action_of(self, statement):
        """Return a function that executes a statement."""
        if statement[0] == "loop":
            return self.loop_action(statement)
        if statement[0] == "when":
            return self.when_action(statement)
        if statement[0] == "put":
            return self.put_action(statement)
        return self.copy_action(statement)

    def loop_action(self, statement):
        variable, start, step, count, body = statement[1:]
        actions = self.body_actions(body)
        counters = self.counters

        def take_turns():
            value = start
            for _ in range(count):
                counters[variable] = value
                for action in actions:
                    action()
                value = value + step
        return take_turns

    def when_action(self, statement):
        place = self.place_of(statement[1])
        actions = self.body_actions(statement[2])

        def decide():
            if place() >= 0:
                for action in actions:
                    action()
        return decide

    def put_action(self, statement):
        row = self.rows[statement[1]]
        place = self.place_of(statement[2])
        worth = self.worth_of(statement[3])
        size = len(row)

        def set_word():
            word = worth()
            at = place()
            if not 0 <= at < size:
                raise RangeError("a word is outside of its buffer")
            row[at] = word
        return set_word

    def copy_action(self, statement):
        _, target, target_form, source, source_form, count = statement
        target_row = self.rows[target]
        target_place = self.place_of(target_form)
        source_row = self.rows[source]
        source_place = self.place_of(source_form)
        return lambda: copy_words(target_row, target_place(), source_row, source_place(), count)

    def place_of(self, form):
        """Return a function that returns the value of an affine form."""
        base, terms = form
        counters = self.counters
        if not terms:
            return lambda: base
        first, one = terms[0]
        if len(terms) == 1:
            return lambda: base + one * counters[first]
        second, two = terms[1]
        if len(terms) == 2:
            return lambda: base + one * counters[first] + two * counters[second]
        return lambda: base + sum([factor * counters[variable] for variable, factor in terms])

    def worth_of(self, expr):
        """Return a function that returns the value of an expression."""
        if expr[0] == "number":
            word = self.table.number(expr[1])
            return lambda: word
        if expr[0] == "index":
            table = self.table
            place = self.place_of(expr[1])
            return lambda: table.number(place())
        if expr[0] == "load":
            return self.load_worth(expr)
        if expr[0] == "pick":
            return self.pick_worth(expr)
        if expr[0] == "apply":
            return self.apply_worth(expr)
        return self.guard_worth(expr)

    def load_worth(self, expr):
        row = self.rows[expr[1]]
        place = self.place_of(expr[2])
        return lambda: word_at(row, place())

    def pick_worth(self, expr):
        _, buffer, form, stride, count, index = expr
        table = self.table
        row = self.rows[buffer]
        place = self.place_of(form)
        worth = self.worth_of(index)

        def choose():
            numbers, which = table.choice(worth(), count)
            start = place()
            return table.chosen([word_at(row, start + stride * number) for number in numbers], which)
        return choose

    def apply_worth(self, expr):
        _, kind, exprs, info = expr
        table = self.table
        worths = [self.worth_of(part) for part in exprs]
        if len(worths) == 2:
            first, second = worths
            return lambda: table.make(kind, (first(), second()), info)
        return lambda: table.make(kind, tuple([worth() for worth in worths]), info)

    def guard_worth(self, expr):
        place = self.place_of(expr[1])
        worth = self.worth_of(expr[2])
        other = self.worth_of(expr[3])
        return lambda: worth() if place() >= 0 else other()


def executed(table, program, given):
    """Return the words of all buffers at the end of a program; one that is not set is None."""
    check_program(program)
    check_given(program, given)
    runner = Runner(table, program[0], given)
    runner.run_body(program[1])
    return tuple([tuple(row) for row in runner.rows])
