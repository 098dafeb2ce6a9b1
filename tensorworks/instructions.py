"""Instructions of the accelerator, and whether code is of the right form, within the ranges and not too large."""

from tensorworks.domains import check_fields
from tensorworks.errors import FormError, RangeError, TooLarge
from tensorworks.kinds import ARITIES, FIELDS, POINTWISE
from tensorworks.machines import check_machine, word_range

SLOTS = 32
OFFSET_LIMIT = 16384
TURN_LIMIT = 1000
SKIP_LIMIT = 4000000
TRANSFER_LIMIT = 4096
CODE_LIMIT = 4000000
LOOP_LIMIT = 16
STEP_LIMIT = 1000000000

TRANSFER = ("queue", "slot", "offset", "slot", "offset", "words")
ITEMS = {
    "set": ("slot", "word"),
    "do": ("kind", "slot", "sources", "info"),
    "load": ("slot", "slot", "offset"),
    "store": ("slot", "offset", "slot"),
    "mac": ("slot", "slot", "offset", "slot", "offset", "lanes"),
    "vector": ("kind", "slot", "slot", "slot", "lanes"),
    "loop": ("slot", "number", "number", "turns"),
    "end": (),
    "skip": ("slot", "skipped"),
    "in": TRANSFER,
    "out": TRANSFER,
    "wait": ("queue",),
}
TUPLES = ("sources", "info")


# The look for errors of form.


def is_of_kind(item, field):
    """Tell whether a field is what an item of an instruction can be."""
    if item == "kind":
        return field in POINTWISE
    if item in TUPLES:
        return isinstance(field, tuple) and all([isinstance(n, int) for n in field])
    return isinstance(field, int)


def form_of_instruction(instruction):
    """Raise the error of form of an instruction."""
    if not isinstance(instruction, tuple) or not instruction or instruction[0] not in ITEMS:
        raise FormError("no such instruction")
    items = ITEMS[instruction[0]]
    if len(instruction) != len(items) + 1:
        raise FormError("wrong number of fields")
    if not all([is_of_kind(item, field) for item, field in zip(items, instruction[1:])]):
        raise FormError("a field is of a wrong kind")
    if instruction[0] == "do":
        _, kind, _, sources, info = instruction
        if len(sources) != ARITIES[kind] or len(info) != len(FIELDS[kind]):
            raise FormError("wrong number of sources or fields")
    if instruction[0] == "vector" and ARITIES[instruction[1]] != 2:
        raise FormError("the kind does not have two args")


def innermost_loops(code):
    """Return, for each instruction and the end, the index of the innermost loop open ahead of it, or -1."""
    inner = [-1]
    around = []
    for at, instruction in enumerate(code):
        if instruction[0] == "loop":
            around.append(at)
        elif instruction[0] == "end":
            if not around:
                raise FormError("an end is outside of all loops")
            around.pop()
        inner.append(around[-1] if around else -1)
    if around:
        raise FormError("a loop has no end")
    return inner


def form_of_skips(code, inner):
    """Raise the error of a skip that reaches behind the code or into or out of a loop."""
    for at, instruction in enumerate(code):
        if instruction[0] == "skip" and instruction[2] > 0:
            behind = at + 1 + instruction[2]
            # Just if the same loop is the innermost one on both sides, all loops between are whole.
            if behind > len(code) or inner[behind] != inner[at + 1]:
                raise FormError("a skip does not skip whole loops")


# The look for numbers out of their ranges.


def ranges_of(machine):
    """Return the least and the greatest number for the items of instructions."""
    far = 1 << machine[0]
    return {
        "slot": (0, SLOTS - 1), "queue": (0, machine[3] - 1), "word": word_range(machine),
        "offset": (-OFFSET_LIMIT, OFFSET_LIMIT), "lanes": (1, machine[4]), "turns": (1, TURN_LIMIT),
        "number": (-far, far), "skipped": (0, SKIP_LIMIT), "words": (1, TRANSFER_LIMIT),
    }


def range_of(n, ends):
    """Raise the error of a number that is out of its range."""
    if not ends[0] <= n <= ends[1]:
        raise RangeError("a number is out of its range")


def range_of_instruction(ranges, instruction):
    """Raise the error of an instruction with a number out of its range."""
    for item, field in zip(ITEMS[instruction[0]], instruction[1:]):
        if item in ranges:
            range_of(field, ranges[item])
    if instruction[0] == "do":
        _, kind, _, sources, info = instruction
        for source in sources:
            range_of(source, ranges["slot"])
        check_fields(kind, info)
        if kind == "clamp":
            range_of(info[0], ranges["word"])
            range_of(info[1], ranges["word"])
    if instruction[0] == "loop":
        _, _, start, step, count = instruction
        range_of(start, ranges["word"])
        range_of(start + step * (count - 1), ranges["word"])


# The look for sizes.


def look_at_sizes(code):
    """Raise the error of code that is too large."""
    if len(code) > CODE_LIMIT:
        raise TooLarge("too many instructions")
    steps = 0
    times = 1
    around = []
    for instruction in code:
        steps += times
        if instruction[0] == "end":
            times = around.pop()
        elif len(around) > LOOP_LIMIT:
            raise TooLarge("too many loops around an instruction")
        elif instruction[0] == "loop":
            around.append(times)
            times = times * instruction[4]
    if steps > STEP_LIMIT:
        raise TooLarge("too many steps")


def check_code(machine, code):
    """Raise the error of code that is not valid."""
    check_machine(machine)
    # Long code repeats itself; each instruction is looked at once.
    distinct = {instruction: True for instruction in code}
    for instruction in distinct:
        form_of_instruction(instruction)
    form_of_skips(code, innermost_loops(code))
    ranges = ranges_of(machine)
    for instruction in distinct:
        range_of_instruction(ranges, instruction)
    look_at_sizes(code)
