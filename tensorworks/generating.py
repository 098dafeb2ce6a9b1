"""Code for loop programs.

Each loop around an instruction has a slot that holds its variable; the other slots hold what is being
worked out, one above the other. The words of main memory are moved one by one through the spare words.
"""

from tensorworks.instructions import OFFSET_LIMIT
from tensorworks.machines import check_machine

SPARE = 20

# The slots of loop variables are numbered from 0, those for results from the first free one on.
FREE = 8
# No instruction sets this slot, so it is always 0.
NOTHING = 31


class Emitter:
    """Makes code for the statements of a program."""

    def __init__(self, program, layout, spare):
        self.roles = [role for role, _ in program[0]]
        self.layout = layout
        self.spare = spare
        # The slots of the variables of the loops around.
        self.slots = {}

    # Numbers and addresses.

    def sum_of_terms(self, terms, d):
        """Return code and the slot with the sum of terms; it uses the slots d and d + 1."""
        code = []
        held = NOTHING
        # Terms with the factor 1 come last, since they need no product.
        for variable, factor in sorted(terms, key=lambda term: term[1] == 1):
            slot = self.slots[variable]
            if factor != 1:
                slot = d if held == NOTHING else d + 1
                code.append(("set", slot, factor))
                code.append(("do", "mul", slot, (slot, self.slots[variable]), ()))
            if held == NOTHING:
                held = slot
            else:
                code.append(("do", "add", d, (held, slot), ()))
                held = d
        return code, held

    def address(self, form, start, d):
        """Return code, a slot and an offset whose sum is the value of a form plus a number."""
        code, slot = self.sum_of_terms(form[1], d)
        base = form[0] + start
        if abs(base) <= OFFSET_LIMIT:
            return code, slot, base
        return code + self.plus_number(slot, base, d), d, 0

    def plus_number(self, slot, n, d):
        """Return code that sets the slot d to a slot plus a number; it uses d + 1, too."""
        if n != 0:
            return [("set", d + 1, n), ("do", "add", d, (slot, d + 1), ())]
        return [("do", "add", d, (slot, NOTHING), ())] if slot != d else []

    def index_code(self, form, d):
        """Return code that sets the slot d to the value of a form."""
        code, slot = self.sum_of_terms(form[1], d)
        if slot == NOTHING:
            return [("set", d, form[0])]
        return code + self.plus_number(slot, form[0], d)

    def choice_code(self, form, first, second, d):
        """Return code that goes through the first code if a form is at least 0, otherwise through the second."""
        code = self.index_code(form, d)
        if second:
            first = first + [("set", d + 1, -1), ("skip", d + 1, len(second))]
        return code + [("skip", d, len(first))] + first + second

    # Expressions.

    def expr_code(self, expr, d):
        """Return code that sets the slot d to the value of an expression; it uses only slots from d on."""
        name = expr[0]
        if name == "number":
            return [("set", d, expr[1])]
        if name == "index":
            return self.index_code(expr[1], d)
        if name == "load":
            return self.load_code(expr[1], expr[2], d)
        if name == "pick":
            return self.pick_code(expr, d)
        if name == "apply":
            return self.apply_code(expr, d)
        return self.choice_code(expr[1], self.expr_code(expr[2], d), self.expr_code(expr[3], d), d)

    def apply_code(self, expr, d):
        _, kind, exprs, info = expr
        code = []
        for at, part in enumerate(exprs):
            code.extend(self.expr_code(part, d + at))
        return code + [("do", kind, d, tuple(range(d, d + len(exprs))), info)]

    def load_code(self, buffer, form, d):
        code, slot, offset = self.address(form, self.layout[buffer], d)
        if self.roles[buffer] == "near":
            return code + [("load", d, slot, offset)]
        fetching = [("in", 0, slot, offset, NOTHING, self.spare, 1), ("wait", 0)]
        return code + fetching + [("load", d, NOTHING, self.spare)]

    def pick_code(self, expr, d):
        _, buffer, form, stride, count, index = expr
        code = self.expr_code(index, d) + [("do", "clamp", d, (d,), (0, count - 1))]
        if self.roles[buffer] != "near":
            return code + self.fetch_code(expr, d + 1) + [("load", d, d, self.spare)]
        code = code + [("set", d + 1, stride), ("do", "mul", d, (d, d + 1), ())]
        more, slot, offset = self.address(form, self.layout[buffer], d + 1)
        return code + more + [("do", "add", d, (d, slot), ()), ("load", d, d, offset)]

    def fetch_code(self, expr, d):
        """Return code that brings all words that a pick may mean to the spare words; it uses d to d + 2."""
        _, buffer, form, stride, count, _ = expr
        start = form[0] + self.layout[buffer]
        code, slot = self.sum_of_terms(form[1], d)
        for k in range(count):
            code.extend(self.fetch_word(slot, start + stride * k, self.spare + k, d + 1))
        return code + [("wait", 0)]

    def fetch_word(self, slot, offset, place, d):
        """Return code that issues the transfer of a word of main memory to a place in the near memory."""
        if abs(offset) <= OFFSET_LIMIT:
            return [("in", 0, slot, offset, NOTHING, place, 1)]
        return self.plus_number(slot, offset, d) + [("in", 0, d, 0, NOTHING, place, 1)]

    # Statements.

    def body_code(self, body):
        """Return code for statements."""
        code = []
        for statement in body:
            code.extend(self.statement_code(statement))
        return code

    def statement_code(self, statement):
        """Return code for a statement."""
        name = statement[0]
        if name == "loop":
            return self.loop_code(statement)
        if name == "when":
            return self.choice_code(statement[1], self.body_code(statement[2]), [], FREE)
        if name == "put":
            return self.put_code(statement)
        return self.copy_code(statement)

    def loop_code(self, statement):
        _, variable, start, step, count, body = statement
        slot = len(self.slots)
        self.slots[variable] = slot
        code = [("loop", slot, start, step, count)] + self.body_code(body) + [("end",)]
        del self.slots[variable]
        return code

    def put_code(self, statement):
        _, buffer, form, expr = statement
        code = self.expr_code(expr, FREE)
        more, slot, offset = self.address(form, self.layout[buffer], FREE + 1)
        code = code + more
        if self.roles[buffer] == "near":
            return code + [("store", slot, offset, FREE)]
        storing = [("store", NOTHING, self.spare, FREE), ("out", 0, slot, offset, NOTHING, self.spare, 1)]
        return code + storing + [("wait", 0)]

    def copy_code(self, statement):
        _, target, target_form, source, source_form, count = statement
        code, slot, offset = self.address(target_form, self.layout[target], FREE)
        more, other, start = self.address(source_form, self.layout[source], FREE + 2)
        if self.roles[target] == "near":
            transfer = ("in", 0, other, start, slot, offset, count)
        else:
            transfer = ("out", 0, slot, offset, other, start, count)
        return code + more + [transfer, ("wait", 0)]


def generated(program, layout, spare):
    """Return code for a program."""
    emitter = Emitter(program, layout, spare)
    return tuple(emitter.body_code(program[1]))


def generate(machine, program, layout, spare):
    """Return code for a program whose buffers stand at the addresses of a layout."""
    check_machine(machine)
    return generated(program, layout, spare)
