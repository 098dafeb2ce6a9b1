"""Code executed on terms, so that it is known to be right for all inputs and all delays."""

from tensorworks.errors import FeedError, MayOverflow, Unsettled
from tensorworks.flights import Flights, Memory, check_row
from tensorworks.frames import Frames
from tensorworks.instructions import SLOTS, check_code
from tensorworks.kinds import pointwise
from tensorworks.machines import word_range


class Audit:
    """The state of a device whose words are terms."""

    def __init__(self, table, machine, main):
        self.table = table
        self.low, self.high = word_range(machine)
        # A slot that holds a number need not have an id until one is asked for.
        self.numbers = [0] * SLOTS
        self.ids = [None] * SLOTS
        self.main = Memory(main)
        self.near = Memory([None] * machine[2])
        self.flights = Flights(machine[3])
        self.frames = Frames()
        self.place = 0

    def execute(self, code):
        """Execute code."""
        while self.place < len(code):
            instruction = code[self.place]
            self.place += 1
            action = AUDITS[instruction[0]]
            action(self, instruction)

    def set_number(self, slot, n):
        """Let a slot hold a number."""
        self.numbers[slot] = n
        self.ids[slot] = None

    def set_term(self, slot, at):
        """Let a slot hold a term."""
        low, high = self.table.span(at)
        self.numbers[slot] = low if low == high else None
        self.ids[slot] = at

    def term(self, slot):
        """Return the id of the term in a slot."""
        if self.ids[slot] is None:
            self.ids[slot] = self.table.number(self.numbers[slot])
        return self.ids[slot]

    def settled(self, slot):
        """Return the number in a slot that must hold one."""
        n = self.numbers[slot]
        if n is None:
            raise Unsettled("a slot does not hold a number")
        return n

    def check_fit(self, at):
        """Raise the error of a result that may not fit the machine."""
        low, high = self.table.span(at)
        if low < self.low or high > self.high:
            raise MayOverflow("a result may not fit the machine")

    def check_sets(self, places):
        """Raise the error of words of the near memory that are set and may be in a transfer."""
        self.near.check_landed(places)
        self.near.check_unread(places)


def audit_set(audit, instruction):
    _, d, n = instruction
    audit.set_number(d, n)


def audit_do(audit, instruction):
    _, kind, d, sources, info = instruction
    numbers = [audit.numbers[source] for source in sources]
    if None not in numbers:
        n = pointwise(kind, numbers, info)
        if not audit.low <= n <= audit.high:
            raise MayOverflow("a result does not fit the machine")
        audit.set_number(d, n)
        return
    made = audit.table.make(kind, tuple([audit.term(source) for source in sources]), info)
    audit.check_fit(made)
    audit.set_term(d, made)


def audit_load(audit, instruction):
    _, d, a, n = instruction
    if audit.numbers[a] is None:
        load_lane(audit, d, audit.ids[a], n)
        return
    places = (audit.numbers[a] + n,)
    audit.near.check_inside(places)
    audit.near.check_landed(places)
    audit.set_term(d, audit.near.terms_at(places)[0])


def load_lane(audit, d, index, n):
    """Load from an address that is a term: all words that it may mean are read."""
    number, divisor, first, last = audit.table.lane(index)
    start = number + n
    audit.near.check_inside((start + divisor * first, start + divisor * last))
    places = [start + divisor * v for v in range(first, last + 1)]
    audit.near.check_landed(places)
    terms = audit.near.terms_at(places)
    audit.set_term(d, audit.table.pick(tuple(terms), audit.table.lane_index(index)))


def audit_store(audit, instruction):
    _, a, n, b = instruction
    places = (audit.settled(a) + n,)
    audit.near.check_inside(places)
    audit.check_sets(places)
    audit.near.words[places[0]] = audit.term(b)


def audit_mac(audit, instruction):
    _, d, a, s, b, t, count = instruction
    first = [audit.settled(a) + s * k for k in range(count)]
    second = [audit.settled(b) + t * k for k in range(count)]
    audit.near.check_inside(first + second)
    audit.near.check_landed(first + second)
    terms = audit.near.terms_at(first + second)
    total = audit.term(d)
    for pair in zip(terms[:count], terms[count:]):
        total = audit.table.make("add", (total, audit.table.make("mul", pair, ())), ())
    audit.check_fit(total)
    audit.set_term(d, total)


def audit_vector(audit, instruction):
    _, kind, d, a, b, count = instruction
    starts = (audit.settled(d), audit.settled(a), audit.settled(b))
    target, first, second = [[start + k for k in range(count)] for start in starts]
    audit.near.check_inside(target + first + second)
    audit.near.check_landed(first + second)
    audit.check_sets(target)
    terms = audit.near.terms_at(first + second)
    made = [audit.table.make(kind, pair, ()) for pair in zip(terms[:count], terms[count:])]
    for at in made:
        audit.check_fit(at)
    audit.near.words[target[0]:target[0] + count] = made


def audit_loop(audit, instruction):
    slot, n = audit.frames.begin(audit.place, instruction)
    audit.set_number(slot, n)


def audit_end(audit, instruction):
    turn = audit.frames.turn()
    if turn is not None:
        audit.place = turn[0]
        audit.set_number(turn[1], turn[2])


def audit_skip(audit, instruction):
    _, a, count = instruction
    if audit.settled(a) < 0:
        audit.place += count


def audit_transfer(audit, instruction):
    name, q, a, n, b, m, count = instruction
    far = audit.settled(a) + n
    close = audit.settled(b) + m
    check_row(audit.main, far, count)
    check_row(audit.near, close, count)
    if name == "in":
        audit.flights.issue(q, audit.main, far, audit.near, close, count)
    else:
        audit.flights.issue(q, audit.near, close, audit.main, far, count)


def audit_wait(audit, instruction):
    audit.flights.wait_for(instruction[1])


AUDITS = {
    "set": audit_set, "do": audit_do, "load": audit_load, "store": audit_store, "mac": audit_mac,
    "vector": audit_vector, "loop": audit_loop, "end": audit_end, "skip": audit_skip, "in": audit_transfer,
    "out": audit_transfer, "wait": audit_wait,
}


def check_main(table, machine, main):
    """Raise the error of terms that do not fill main memory or do not fit the machine."""
    low, high = word_range(machine)
    if len(main) != machine[1]:
        raise FeedError("not as many entries as main memory has words")
    for at in main:
        if at is not None:
            least, most = table.span(at)
            if least < low or most > high:
                raise FeedError("a term may not fit the machine")


def audited(table, machine, code, main):
    """Return what main memory holds at the end of code that is known to be valid, or raise the audit's error."""
    check_main(table, machine, main)
    audit = Audit(table, machine, main)
    audit.execute(code)
    return tuple(audit.main.words)


def audit_code(table, machine, code, main):
    """Return what the words of main memory hold at the end: terms or None."""
    check_code(machine, code)
    return audited(table, machine, code, main)
