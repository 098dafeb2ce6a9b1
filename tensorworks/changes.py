"""Changes of loop programs that leave the same words in main memory."""

from tensorworks.affine import constant, less_form, normal, variable_form
from tensorworks.agreeing import agree
from tensorworks.errors import ChangeError, TensorError
from tensorworks.loops import PART_LIMIT, STATEMENT_LIMIT, body_of, check_program, size_of_body
from tensorworks.mapping import body_replaced, mapped_body

CHANGES = ("tile", "swap", "unroll", "reverse", "split", "fuse", "stage")
ITEMS = {"tile": 3, "swap": 2, "unroll": 2, "reverse": 2, "split": 3, "fuse": 2, "stage": 6}
MODES = ("in", "out", "both")


def need(holds):
    """Raise the error of a change that cannot be made unless a condition holds."""
    if not holds:
        raise ChangeError("the change cannot be made here")


def greatest_variable(body):
    """Return the greatest variable of a loop in statements, -1 if there is none."""
    greatest = -1
    for statement in body:
        if statement[0] == "loop":
            greatest = max(greatest, statement[1])
        greatest = max(greatest, greatest_variable(body_of(statement)))
    return greatest


# Each function returns the statements that stand in the place of a loop and of the next statement,
# and how many statements these replace. It gets the program, the statements from the loop on and the change.


def tiled(program, rest, change):
    _, variable, start, step, count, body = rest[0]
    size = change[2]
    need(1 <= size <= count)
    outer = greatest_variable(program[1]) + 1
    inside = body_replaced(body, variable, normal(start, ((outer, step * size), (variable, step))))
    if count - count // size * size != 0:
        inside = (("when", normal(count - 1, ((outer, -size), (variable, -1))), inside),)
    inner = ("loop", variable, 0, 1, size, inside)
    return (("loop", outer, 0, 1, -(-count // size), (inner,)),), 1


def swapped(program, rest, change):
    _, variable, start, step, count, body = rest[0]
    need(len(body) == 1 and body[0][0] == "loop")
    inner = ("loop", variable, start, step, count, body[0][5])
    return (body[0][:5] + ((inner,),),), 1


def unrolled(program, rest, change):
    _, variable, start, step, count, body = rest[0]
    statements, parts, _ = size_of_body(body, 0, 0)
    # What would be too large is not made first, it can be long.
    need(statements * count <= STATEMENT_LIMIT and parts * count <= PART_LIMIT)
    copies = [body_replaced(body, variable, constant(start + step * turn)) for turn in range(count)]
    return tuple([statement for copy in copies for statement in copy]), 1


def reversed_loop(program, rest, change):
    _, variable, start, step, count, body = rest[0]
    return (("loop", variable, start + step * (count - 1), -step, count, body),), 1


def divided(program, rest, change):
    body = rest[0][5]
    at = change[2]
    need(1 <= at < len(body))
    return (rest[0][:5] + (body[:at],), rest[0][:5] + (body[at:],)), 1


def fused(program, rest, change):
    need(len(rest) > 1 and rest[1][0] == "loop" and rest[0][2:5] == rest[1][2:5])
    added = body_replaced(rest[1][5], rest[1][1], variable_form(rest[0][1]))
    return (rest[0][:5] + (rest[0][5] + added,),), 2


def staged(program, rest, change):
    _, _, buffer, form, count, mode = change
    buffers = program[0]
    need(0 <= buffer < len(buffers) and buffers[buffer][0] != "near" and mode in MODES)
    new = len(buffers)
    body = mapped_body(
        rest[0][5], lambda here: here,
        lambda where, here: (new, less_form(here, form)) if where == buffer else (where, here))
    if mode != "out":
        body = (("copy", new, constant(0), buffer, form, count),) + body
    if mode != "in":
        body += (("copy", buffer, form, new, constant(0), count),)
    return (rest[0][:5] + (body,),), 1


MAKERS = {
    "tile": tiled, "swap": swapped, "unroll": unrolled, "reverse": reversed_loop, "split": divided,
    "fuse": fused, "stage": staged,
}


def changed_body(program, body, path, change):
    """Return statements with what a change makes at the end of a path in them."""
    need(path and 0 <= path[0] < len(body))
    at = path[0]
    statement = body[at]
    if len(path) > 1:
        need(body_of(statement))
        inside = changed_body(program, body_of(statement), path[1:], change)
        return body[:at] + (statement[:-1] + (inside,),) + body[at + 1:]
    need(statement[0] == "loop")
    action = MAKERS[change[0]]
    made, many = action(program, body[at:], change)
    return body[:at] + made + body[at + many:]


def changed_program(program, change):
    """Return the program that a change makes of a valid one, without asking whether the two agree."""
    need(change and len(change) == ITEMS.get(change[0]))
    buffers, body = program
    made = changed_body(program, body, change[1], change)
    if change[0] == "stage":
        buffers = buffers + (("near", change[4]),)
    return (buffers, made)


def apply_change(program, change):
    """Return the changed program."""
    check_program(program)
    made = changed_program(program, change)
    try:
        same = agree(program, made)
    except TensorError as error:
        raise ChangeError("the programs cannot be compared") from error
    need(same)
    return made
