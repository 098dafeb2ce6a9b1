"""Loop programs: whether they are of the right form, within the ranges and not too large."""

from tensorworks.domains import check_fields
from tensorworks.errors import FormError, RangeError, TooLarge
from tensorworks.kinds import ARITIES, FIELDS, POINTWISE, WIDTH_LIMIT

ROLES = ("in", "main", "near")
STATEMENT_ITEMS = {"loop": 6, "when": 3, "put": 4, "copy": 6}
EXPR_ITEMS = {"number": 2, "index": 2, "load": 3, "pick": 6, "apply": 4, "guard": 4}

WORDS_LIMIT = 4096
TURN_LIMIT = 1000
VARIABLE_LIMIT = 1000
FACTOR_LIMIT = 4096
PICK_LIMIT = 16

BUFFER_LIMIT = 1000
STATEMENT_LIMIT = 20000
PART_LIMIT = 10000
LOOP_LIMIT = 7
DEPTH_LIMIT = 10
LEVEL_LIMIT = 10
STEP_LIMIT = 4000000


def parts_of(expr):
    """Return the expressions directly in an expression."""
    if expr[0] == "apply":
        return expr[2]
    if expr[0] == "pick":
        return (expr[5],)
    if expr[0] == "guard":
        return (expr[2], expr[3])
    return ()


def body_of(statement):
    """Return the statements directly in a statement."""
    if statement[0] == "loop":
        return statement[5]
    if statement[0] == "when":
        return statement[2]
    return ()


# The look for errors of form.


def form_of_affine(form, around):
    """Raise the error of an affine form, given the variables of the loops around it."""
    before = -1
    for at, (variable, factor) in enumerate(form[1]):
        if factor == 0 or variable not in around or (at > 0 and variable <= before):
            raise FormError("not an affine form here")
        before = variable


def form_of_buffer(buffers, index):
    """Raise the error of an index that is not one of a buffer."""
    if not 0 <= index < len(buffers):
        raise FormError("no such buffer")


def form_of_expr(buffers, expr, around):
    """Raise the error of form of an expression."""
    if not expr or len(expr) != EXPR_ITEMS.get(expr[0]):
        raise FormError("no such expression")
    name = expr[0]
    if name in ("load", "pick"):
        form_of_buffer(buffers, expr[1])
        form_of_affine(expr[2], around)
    if name in ("index", "guard"):
        form_of_affine(expr[1], around)
    if name == "apply":
        form_of_apply(expr[1], expr[2], expr[3])
    for part in parts_of(expr):
        form_of_expr(buffers, part, around)


def form_of_apply(kind, exprs, info):
    """Raise the error of an apply of a kind that is not pointwise or has other numbers of args or fields."""
    if kind not in POINTWISE:
        raise FormError("the kind is not pointwise")
    if len(exprs) != ARITIES[kind] or len(info) != len(FIELDS[kind]):
        raise FormError("wrong number of expressions or fields")


def form_of_copy(buffers, statement, around):
    """Raise the error of form of a copy."""
    _, target, target_form, source, source_form, _ = statement
    form_of_buffer(buffers, target)
    form_of_buffer(buffers, source)
    if buffers[target][0] == "in" or (buffers[target][0] == "near") == (buffers[source][0] == "near"):
        raise FormError("a copy does not go between these buffers")
    form_of_affine(target_form, around)
    form_of_affine(source_form, around)


def form_of_statement(buffers, statement, around):
    """Raise the error of form of a statement."""
    if not statement or len(statement) != STATEMENT_ITEMS.get(statement[0]):
        raise FormError("no such statement")
    name = statement[0]
    if name == "put":
        form_of_buffer(buffers, statement[1])
        if buffers[statement[1]][0] == "in":
            raise FormError("a word that is given is put")
        form_of_affine(statement[2], around)
        form_of_expr(buffers, statement[3], around)
        return
    if name == "copy":
        form_of_copy(buffers, statement, around)
        return
    if not body_of(statement):
        raise FormError("a body is empty")
    if name == "loop":
        if statement[1] in around:
            raise FormError("the variable is that of a loop around")
        around = around + (statement[1],)
    else:
        form_of_affine(statement[1], around)
    for part in body_of(statement):
        form_of_statement(buffers, part, around)


def look_at_form(program):
    """Raise the error of form of a program."""
    buffers, body = program
    for role, _ in buffers:
        if role not in ROLES:
            raise FormError("no such role")
    for statement in body:
        form_of_statement(buffers, statement, ())


# The look for numbers out of their ranges.


def range_of(n, low, high):
    """Raise the error of a number that is out of a range."""
    if not low <= n <= high:
        raise RangeError("a number is out of its range")


def range_of_affine(form):
    """Raise the error of an affine form with a number out of its range."""
    range_of(form[0], -FACTOR_LIMIT, FACTOR_LIMIT)
    for _, factor in form[1]:
        range_of(factor, -FACTOR_LIMIT, FACTOR_LIMIT)


def range_of_expr(expr):
    """Raise the error of an expression with a number out of its range."""
    name = expr[0]
    if name == "number":
        range_of(expr[1], -(1 << WIDTH_LIMIT), 1 << WIDTH_LIMIT)
    if name in ("index", "guard"):
        range_of_affine(expr[1])
    if name in ("load", "pick"):
        range_of_affine(expr[2])
    if name == "pick":
        range_of(expr[3], -FACTOR_LIMIT, FACTOR_LIMIT)
        range_of(expr[4], 1, PICK_LIMIT)
    if name == "apply":
        check_fields(expr[1], expr[3])
    for part in parts_of(expr):
        range_of_expr(part)


def range_of_loop(statement):
    """Raise the error of a loop with a number out of its range."""
    _, variable, start, step, count, _ = statement
    if variable < 0:
        raise RangeError("a variable is negative")
    range_of(count, 1, TURN_LIMIT)
    range_of(start, -VARIABLE_LIMIT, VARIABLE_LIMIT)
    range_of(start + step * (count - 1), -VARIABLE_LIMIT, VARIABLE_LIMIT)


def range_of_statement(statement):
    """Raise the error of a statement with a number out of its range."""
    name = statement[0]
    if name == "loop":
        range_of_loop(statement)
    if name == "when":
        range_of_affine(statement[1])
    if name == "put":
        range_of_affine(statement[2])
        range_of_expr(statement[3])
    if name == "copy":
        range_of_affine(statement[2])
        range_of_affine(statement[4])
        range_of(statement[5], 1, WORDS_LIMIT)
    for part in body_of(statement):
        range_of_statement(part)


def look_at_ranges(program):
    """Raise the error of a program with a number out of its range."""
    buffers, body = program
    for _, size in buffers:
        range_of(size, 1, WORDS_LIMIT)
    for statement in body:
        range_of_statement(statement)


# The look for sizes.


def size_of_expr(expr):
    """Return how many levels and parts an expression has, and how many steps its parts count."""
    levels = 0
    parts = 1
    steps = 1 + (expr[4] if expr[0] == "pick" else 0)
    for part in parts_of(expr):
        more = size_of_expr(part)
        levels = max(levels, more[0])
        parts += more[1]
        steps += more[2]
    return (levels + 1, parts, steps)


def size_of_simple(statement):
    """Return how many statements, parts and steps a put or a copy has."""
    if statement[0] == "copy":
        return (1, 0, statement[5])
    levels, parts, steps = size_of_expr(statement[3])
    if levels > LEVEL_LIMIT:
        raise TooLarge("an expression has too many levels")
    return (1, parts, 1 + steps)


def size_of_statement(statement, loops, depth):
    """Return how many statements, parts and steps a statement has, given how many are around it."""
    is_loop = statement[0] == "loop"
    if depth > DEPTH_LIMIT or (is_loop and loops > LOOP_LIMIT):
        raise TooLarge("too many statements around a statement")
    if not body_of(statement):
        return size_of_simple(statement)
    statements, parts, steps = size_of_body(body_of(statement), loops + 1 if is_loop else loops, depth + 1)
    return (statements + 1, parts, 1 + (statement[4] * steps if is_loop else steps))


def size_of_body(body, loops, depth):
    """Return how many statements, parts and steps statements have together."""
    statements = 0
    parts = 0
    steps = 0
    for statement in body:
        more = size_of_statement(statement, loops, depth)
        statements += more[0]
        parts += more[1]
        steps += more[2]
    return (statements, parts, steps)


def look_at_sizes(program):
    """Raise the error of a program that is too large."""
    buffers, body = program
    if len(buffers) > BUFFER_LIMIT:
        raise TooLarge("too many buffers")
    statements, parts, steps = size_of_body(body, 0, 0)
    if statements > STATEMENT_LIMIT or parts > PART_LIMIT or steps > STEP_LIMIT:
        raise TooLarge("too many statements, parts or steps")


def check_program(program):
    """Raise the error of a program that is not valid."""
    look_at_form(program)
    look_at_ranges(program)
    look_at_sizes(program)
