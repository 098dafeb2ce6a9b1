"""Instructions of the accelerator, and whether code is of the right form, within the ranges and not too large."""

from tensorworks.domains import check_fields
from tensorworks.errors import FormError, RangeError, TooLarge
from tensorworks.kinds import ARITIES, FIELDS, POINTWISE
from tensorworks.machines import check_machine, word_range

SLOTS = 32
OFFSET_LIMIT = 16384
TURN_LIMIT = 1000
SKIP_LIMIT = 4000000
TRANSFER_LIMIT = 4096
CODE_LIMIT = 4000000
LOOP_LIMIT = 16
STEP_LIMIT = 1000000000

ITEMS = {
    "set": ("slot", "word"),
    "do": ("kind", "slot", "sources", "info"),
    "load": ("slot", "slot", "offset"),
    "store": ("slot", "offset", "slot"),
    "mac": ("slot", "slot", "offset", "slot", "offset", "lanes"),
    "vector": ("kind", "slot", "slot", "slot", "lanes"),
    "loop": ("slot", "number", "number", "turns"),
    "end": (),
    "skip": ("slot", "skipped"),
    "in": ("queue", "slot", "offset", "slot", "offset", "words"),
    "out": ("queue", "slot", "offset", "slot", "offset", "words"),
    "wait": ("queue",),
}
TUPLES = ("sources", "info")


# The look for errors of form.


def rows_by_name(code):
    """Return a dict from names to lists of the different instructions with this name."""
    # Code can be very long, so each instruction that it repeats is looked at once, and then field by field.
    rows = {}
    for instruction in {one: True for one in code}:
        if not isinstance(instruction, tuple) or not instruction or instruction[0] not in ITEMS:
            raise FormError("no such instruction")
        rows.setdefault(instruction[0], []).append(instruction)
    return rows


def are_of_item(item, fields):
    """Tell whether fields are what an item of an instruction can be."""
    if item == "kind":
        return all([field in POINTWISE for field in fields])
    if item in TUPLES:
        return all([isinstance(field, tuple) and all([isinstance(n, int) for n in field]) for field in fields])
    return all([isinstance(field, int) for field in fields])


def form_of_rows(name, rows):
    """Raise the error of form of instructions with a name."""
    items = ITEMS[name]
    if any([len(row) != len(items) + 1 for row in rows]):
        raise FormError("wrong number of fields")
    for at, item in enumerate(items):
        if not are_of_item(item, [row[at + 1] for row in rows]):
            raise FormError("a field is of a wrong kind")
    if name == "do":
        for _, kind, _, sources, info in rows:
            if len(sources) != ARITIES[kind] or len(info) != len(FIELDS[kind]):
                raise FormError("wrong number of sources or fields")
    if name == "vector" and any([ARITIES[row[1]] != 2 for row in rows]):
        raise FormError("the kind does not have two args")


def innermost_loops(code):
    """Return, for each instruction and the end, the index of the innermost loop open ahead of it, or -1."""
    inner = [-1]
    around = []
    for at, instruction in enumerate(code):
        if instruction[0] == "loop":
            around.append(at)
        elif instruction[0] == "end":
            if not around:
                raise FormError("an end is outside of all loops")
            around.pop()
        inner.append(around[-1] if around else -1)
    if around:
        raise FormError("a loop has no end")
    return inner


def form_of_skips(code, inner):
    """Raise the error of a skip that reaches behind the code or into or out of a loop."""
    for at, instruction in enumerate(code):
        if instruction[0] == "skip" and instruction[2] > 0:
            behind = at + 1 + instruction[2]
            # Just if the same loop is the innermost one on both sides, all loops between are whole.
            if behind > len(code) or inner[behind] != inner[at + 1]:
                raise FormError("a skip does not skip whole loops")


# The look for numbers out of their ranges.


def ranges_of(machine):
    """Return the least and the greatest number for the items of instructions."""
    far = 1 << machine[0]
    return {
        "slot": (0, SLOTS - 1), "queue": (0, machine[3] - 1), "word": word_range(machine),
        "offset": (-OFFSET_LIMIT, OFFSET_LIMIT), "lanes": (1, machine[4]), "turns": (1, TURN_LIMIT),
        "number": (-far, far), "skipped": (0, SKIP_LIMIT), "words": (1, TRANSFER_LIMIT),
    }


def range_of(numbers, ends):
    """Raise the error of numbers of which one is out of its range."""
    if min(numbers) < ends[0] or max(numbers) > ends[1]:
        raise RangeError("a number is out of its range")


def range_of_rows(ranges, name, rows):
    """Raise the error of instructions with a name of which one has a number out of its range."""
    for at, item in enumerate(ITEMS[name]):
        if item in ranges:
            range_of([row[at + 1] for row in rows], ranges[item])
    if name == "do":
        for _, kind, _, sources, info in rows:
            range_of(sources, ranges["slot"])
            check_fields(kind, info)
            if kind == "clamp":
                range_of(info, ranges["word"])
    if name == "loop":
        range_of([start for _, _, start, _, _ in rows], ranges["word"])
        range_of([start + step * (count - 1) for _, _, start, step, count in rows], ranges["word"])


# The look for sizes.


def look_at_sizes(code):
    """Raise the error of code that is too large."""
    if len(code) > CODE_LIMIT:
        raise TooLarge("too many instructions")
    steps = 0
    times = 1
    around = []
    for instruction in code:
        steps += times
        if instruction[0] == "end":
            times = around.pop()
        elif len(around) > LOOP_LIMIT:
            raise TooLarge("too many loops around an instruction")
        elif instruction[0] == "loop":
            around.append(times)
            times = times * instruction[4]
    if steps > STEP_LIMIT:
        raise TooLarge("too many steps")


def check_code(machine, code):
    """Raise the error of code that is not valid."""
    check_machine(machine)
    rows = rows_by_name(code)
    for name in rows:
        form_of_rows(name, rows[name])
    form_of_skips(code, innermost_loops(code))
    ranges = ranges_of(machine)
    for name in rows:
        range_of_rows(ranges, name, rows[name])
    look_at_sizes(code)
