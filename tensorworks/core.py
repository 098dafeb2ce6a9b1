"""The state of a running device, and what instructions do to it."""

from tensorworks.frames import Frames
from tensorworks.instructions import SLOTS
from tensorworks.kinds import pointwise
from tensorworks.machines import word_range

# Each instruction has a plan: a function that returns what the instruction would do, None if it traps.
# What it does is a triple: a list, an index and the word that is set there; or None, a function and what
# this function is called with, which then also tells the core where to go on.


def plan_set(core, instruction):
    _, d, n = instruction
    doing = (core.slots, d, n)
    return lambda: doing


def plan_do(core, instruction):
    _, kind, d, sources, info = instruction
    slots = core.slots

    def plan():
        n = pointwise(kind, [slots[s] for s in sources], info)
        return (slots, d, n) if core.low <= n <= core.high else None
    return plan


def plan_load(core, instruction):
    _, d, a, n = instruction
    slots = core.slots
    near = core.near
    size = len(near)

    def plan():
        place = slots[a] + n
        return (slots, d, near[place]) if 0 <= place < size else None
    return plan


def plan_store(core, instruction):
    _, a, n, b = instruction
    slots = core.slots
    near = core.near
    size = len(near)

    def plan():
        place = slots[a] + n
        return (near, place, slots[b]) if 0 <= place < size else None
    return plan


def lane_words(row, start, stride, count):
    """Return words that are a stride apart, or None if one of them is outside."""
    last = start + stride * (count - 1)
    if start < 0 or start >= len(row) or last < 0 or last >= len(row):
        return None
    return [row[start + stride * k] for k in range(count)]


def plan_mac(core, instruction):
    _, d, a, s, b, t, count = instruction
    slots = core.slots

    def plan():
        first = lane_words(core.near, slots[a], s, count)
        second = lane_words(core.near, slots[b], t, count)
        if first is None or second is None:
            return None
        n = slots[d] + sum([x * y for x, y in zip(first, second)])
        return (slots, d, n) if core.low <= n <= core.high else None
    return plan


def plan_vector(core, instruction):
    _, kind, d, a, b, count = instruction
    slots = core.slots

    def plan():
        first = lane_words(core.near, slots[a], 1, count)
        second = lane_words(core.near, slots[b], 1, count)
        if first is None or second is None or lane_words(core.near, slots[d], 1, count) is None:
            return None
        words = [pointwise(kind, pair, ()) for pair in zip(first, second)]
        if min(words) < core.low or max(words) > core.high:
            return None
        return (None, core.set_near, (slots[d], words))
    return plan


def plan_loop(core, instruction):
    doing = (None, core.begin_loop, instruction)
    return lambda: doing


def plan_end(core, instruction):
    doing = (None, core.end_turn, instruction)
    return lambda: doing


def plan_skip(core, instruction):
    _, a, count = instruction
    slots = core.slots
    return lambda: (None, core.go_on, count + 1 if slots[a] < 0 else 1)


def plan_transfer(core, instruction):
    name, q, a, n, b, m, count = instruction
    slots = core.slots

    def plan():
        far = slots[a] + n
        close = slots[b] + m
        if far < 0 or far + count > len(core.main) or close < 0 or close + count > len(core.near):
            return None
        if name == "in":
            return (None, core.issue_transfer, (q, core.main, far, core.near, close, count))
        return (None, core.issue_transfer, (q, core.near, close, core.main, far, count))
    return plan


def plan_wait(core, instruction):
    doing = (None, core.wait_for, instruction[1])
    return lambda: doing


PLANS = {
    "set": plan_set, "do": plan_do, "load": plan_load, "store": plan_store, "mac": plan_mac,
    "vector": plan_vector, "loop": plan_loop, "end": plan_end, "skip": plan_skip, "in": plan_transfer,
    "out": plan_transfer, "wait": plan_wait,
}


class Core:
    """A device with code and memories that are known to be right."""

    def __init__(self, machine, code, main, near, delays):
        self.low, self.high = word_range(machine)
        self.code = code
        self.slots = [0] * SLOTS
        self.main = list(main)
        self.near = list(near)
        self.delays = delays
        self.queues = [[] for _ in range(machine[3])]
        self.issued = 0
        self.waiting = 0
        self.frames = Frames()
        self.place = 0
        self.plans = [None] * len(code)
        self.doing = None
        self.look_ahead()

    def has_ended(self):
        """Tell whether there is no next instruction."""
        return self.place == len(self.code)

    def look_ahead(self):
        """Find out what the next instruction does."""
        at = self.place
        if at == len(self.code):
            self.doing = None
            return
        plan = self.plans[at]
        if plan is None:
            maker = PLANS[self.code[at][0]]
            plan = maker(self, self.code[at])
            self.plans[at] = plan
        self.doing = plan()

    def advance(self):
        """Execute the next instruction, which is known not to trap."""
        row, what, worth = self.doing
        if row is None:
            what(worth)
        else:
            row[what] = worth
            self.place += 1
        if self.waiting:
            self.settle()
            if self.has_ended():
                self.finish()
        self.look_ahead()

    def run_on(self):
        """Execute instructions until the code has ended or one traps."""
        while self.doing is not None:
            self.advance()

    def settle(self):
        """Carry out the oldest transfer of each queue, or let its delay decrease."""
        for queue in self.queues:
            if queue:
                if queue[0][0] == 0:
                    self.carry_out(queue)
                else:
                    queue[0][0] -= 1

    def carry_out(self, queue):
        """Carry out the oldest transfer of a queue."""
        _, source, first, target, start, count = queue.pop(0)
        self.waiting -= 1
        target[start:start + count] = source[first:first + count]

    def finish(self):
        """Carry out all transfers that are pending."""
        for queue in self.queues:
            self.clear_queue(queue)

    def clear_queue(self, queue):
        """Carry out all transfers of a queue."""
        while queue:
            self.carry_out(queue)

    # What instructions do that do not just set one word.

    def go_on(self, many):
        """Go on so many instructions behind this one."""
        self.place += many

    def set_near(self, found):
        """Set words of the near memory."""
        start, words = found
        self.near[start:start + len(words)] = words
        self.place += 1

    def begin_loop(self, instruction):
        """Begin the first turn of a loop."""
        self.place += 1
        slot, n = self.frames.begin(self.place, instruction)
        self.slots[slot] = n

    def end_turn(self, instruction):
        """Begin the next turn of the innermost loop, or leave it."""
        turn = self.frames.turn()
        if turn is None:
            self.place += 1
        else:
            self.place, slot, n = turn
            self.slots[slot] = n

    def issue_transfer(self, transfer):
        """Put a transfer behind the others of its queue."""
        delay = self.delays[self.issued % len(self.delays)] if self.delays else 0
        self.queues[transfer[0]].append([delay] + list(transfer[1:]))
        self.issued += 1
        self.waiting += 1
        self.place += 1

    def wait_for(self, q):
        """Carry out all transfers of a queue."""
        self.clear_queue(self.queues[q])
        self.place += 1
