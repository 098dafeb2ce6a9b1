"""When the words of buffers in main memory are needed."""

from tensorworks.loops import body_of, parts_of


def note_expr(expr, used):
    """Add the buffers that occur in an expression to a dict."""
    if expr[0] in ("load", "pick"):
        used[expr[1]] = True
    for part in parts_of(expr):
        note_expr(part, used)


def note_statement(statement, used):
    """Add the buffers that occur in a statement to a dict."""
    if statement[0] == "put":
        used[statement[1]] = True
        note_expr(statement[3], used)
    if statement[0] == "copy":
        used[statement[1]] = True
        used[statement[3]] = True
    for part in body_of(statement):
        note_statement(part, used)


def lives(program, outs):
    """Return the lives of the buffers with the role main."""
    buffers, body = program
    first = {}
    last = {}
    for at, statement in enumerate(body):
        used = {}
        note_statement(statement, used)
        for buffer in used:
            first.setdefault(buffer, at)
            last[buffer] = at
    for out in outs:
        last[out] = len(body)
    mains = [buffer for buffer, (role, _) in enumerate(buffers) if role == "main"]
    return tuple([(first.get(buffer, 0), last.get(buffer, 0)) for buffer in mains])


def meet(one, other):
    """Tell whether two lives have a moment in common."""
    return one[0] <= other[1] and other[0] <= one[1]
