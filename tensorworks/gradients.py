"""The graph of the gradient, made backwards from the outputs."""

from tensorworks.drafts import Draft, put_count, put_mask, put_number, put_zeros
from tensorworks.errors import RangeError
from tensorworks.graphs import check_graph, input_places
from tensorworks.shapes import letters_of, size_of, union

SILENT = ("input", "const", "less", "equal", "shift")


def fitted(draft, made, goal):
    """Put the nodes that bring what was made to the axes of the goal."""
    letters = letters_of(draft.shapes[goal])
    for letter in letters_of(draft.shapes[made]):
        if letter not in letters:
            made = draft.put("sum", (made,), (letter,))
    if letters_of(draft.shapes[made]) != letters:
        made = draft.put("order", (made,), (letters,))
    return made


def product_part(draft, total, other, goal):
    """Put the product of a total and a factor for the other factor."""
    letters = letters_of(draft.shapes[goal])
    both = letters_of(union(draft.shapes[total], draft.shapes[other]))
    extra = [letter for letter in both if letter not in letters]
    if extra:
        made = draft.put("dot", (total, other), (extra[0],))
    else:
        made = draft.put("mul", (total, other), ())
    return fitted(draft, made, goal)


def chosen_part(draft, test, pair, goal):
    """Put the choice between a total and zero, for an arg."""
    return fitted(draft, draft.put("where", (test,) + pair, ()), goal)


def add_parts(draft, node, place, total):
    return [fitted(draft, total, arg) for arg in node[1]]


def sub_parts(draft, node, place, total):
    first = fitted(draft, total, node[1][0])
    second = fitted(draft, draft.put("neg", (total,), ()), node[1][1])
    return [first, second]


def mul_parts(draft, node, place, total):
    a, b = node[1]
    first = fitted(draft, draft.put("mul", (total, b), ()), a)
    second = fitted(draft, draft.put("mul", (total, a), ()), b)
    return [first, second]


def dot_parts(draft, node, place, total):
    a, b = node[1]
    first = product_part(draft, total, b, a)
    second = product_part(draft, total, a, b)
    return [first, second]


def choice_parts(draft, node, place, total):
    kind, args, _ = node
    below = draft.put("less", args, ())
    zero = put_number(draft, 0)
    pair = (total, zero) if kind == "min" else (zero, total)
    first = chosen_part(draft, below, pair, args[0])
    second = chosen_part(draft, below, pair[::-1], args[1])
    return [first, second]


def neg_parts(draft, node, place, total):
    return [draft.put("neg", (total,), ())]


def clamp_parts(draft, node, place, total):
    same = draft.put("equal", (node[1][0], place), ())
    zero = put_number(draft, 0)
    return [draft.put("where", (same, total, zero), ())]


def where_parts(draft, node, place, total):
    test, a, b = node[1]
    zero = put_number(draft, 0)
    first = chosen_part(draft, test, (total, zero), a)
    second = chosen_part(draft, test, (zero, total), b)
    # The test gets nothing: its slope does not count.
    return [None, first, second]


def sum_parts(draft, node, place, total):
    _, (a,), (axis,) = node
    size = size_of(draft.shapes[a], axis)
    return [fitted(draft, draft.put("spread", (total,), (axis, size)), a)]


def peak_parts(draft, node, place, total):
    mask = put_mask(draft, place)
    zero = put_number(draft, 0)
    return [chosen_part(draft, mask, (total, zero), node[1][0])]


def order_parts(draft, node, place, total):
    return [draft.put("order", (total,), (letters_of(draft.shapes[node[1][0]]),))]


def rename_parts(draft, node, place, total):
    axis, new = node[2]
    return [draft.put("rename", (total,), (new, axis))]


def spread_parts(draft, node, place, total):
    axis, _ = node[2]
    return [draft.put("sum", (total,), (axis,))]


def cut_parts(draft, node, place, total):
    _, (a,), (axis, start, count) = node
    size = size_of(draft.shapes[a], axis)
    return [draft.put("pad", (total,), (axis, start, size - start - count))]


def pad_parts(draft, node, place, total):
    _, (a,), (axis, before, _) = node
    return [draft.put("cut", (total,), (axis, before, size_of(draft.shapes[a], axis)))]


def join_parts(draft, node, place, total):
    axis = node[2][0]
    first, second = [size_of(draft.shapes[arg], axis) for arg in node[1]]
    to_a = draft.put("cut", (total,), (axis, 0, first))
    to_b = draft.put("cut", (total,), (axis, first, second))
    return [to_a, to_b]


def window_parts(draft, node, place, total):
    _, (a,), (axis, new, _, stride) = node
    return [draft.put("fold", (total,), (axis, new, stride, size_of(draft.shapes[a], axis)))]


def fold_parts(draft, node, place, total):
    _, (a,), (axis, second, stride, _) = node
    size = size_of(draft.shapes[a], axis)
    made = draft.put("window", (total,), (axis, second, size_of(draft.shapes[a], second), stride))
    if size_of(draft.shapes[made], axis) > size:
        made = draft.put("cut", (made,), (axis, 0, size))
    return [fitted(draft, made, a)]


def gather_parts(draft, node, place, total):
    _, (a, i), (axis,) = node
    size = size_of(draft.shapes[a], axis)
    count = put_count(draft, axis, size)
    index = draft.put("clamp", (i,), (0, size - 1))
    meant = draft.put("equal", (count, index), ())
    zero = put_number(draft, 0)
    return [chosen_part(draft, meant, (total, zero), a), None]


SENDERS = {
    "add": add_parts, "sub": sub_parts, "mul": mul_parts, "dot": dot_parts, "max": choice_parts,
    "min": choice_parts, "neg": neg_parts, "clamp": clamp_parts, "where": where_parts, "sum": sum_parts,
    "peak": peak_parts, "order": order_parts, "rename": rename_parts, "spread": spread_parts,
    "cut": cut_parts, "pad": pad_parts, "join": join_parts, "window": window_parts, "fold": fold_parts,
    "gather": gather_parts,
}


def put_total(draft, parts):
    """Put the sum of the parts that a node has received."""
    total = parts[0]
    for part in parts[1:]:
        total = draft.put("add", (total, part), ())
    return total


def put_totals(draft, nodes, weights):
    """Visit the nodes from the last to the first; return their totals, None where there are no parts.

    Weights has pairs of an output and its weight.
    """
    parts = [[] for _ in nodes]
    for out, weight in weights:
        parts[out].append(weight)
    totals = [None] * len(nodes)
    for place in range(len(nodes) - 1, -1, -1):
        if not parts[place]:
            continue
        totals[place] = put_total(draft, parts[place])
        kind, args, _ = nodes[place]
        if kind in SILENT:
            continue
        sender = SENDERS[kind]
        for arg, part in zip(args, sender(draft, nodes[place], place, totals[place])):
            if part is not None:
                parts[arg].append(part)
    return totals


def copied(nodes):
    """Return a draft that begins with nodes."""
    draft = Draft()
    for kind, args, info in nodes:
        draft.put(kind, args, info)
    return draft


def put_answers(draft, nodes, weights):
    """Put the gradient behind the nodes and the weights, and return its node for each input."""
    totals = put_totals(draft, nodes, weights)
    answers = []
    for place in input_places(nodes):
        total = totals[place]
        answers.append(put_zeros(draft, draft.shapes[place]) if total is None else total)
    return answers


def gradient_graph(graph, low, high):
    """Return the graph of the gradient; the weights are from low to high."""
    domains = check_graph(graph)
    if low > high:
        raise RangeError("low is greater than high")
    nodes, outs = graph
    draft = copied(nodes)
    weights = [(out, draft.put("input", (), (domains[out][0], low, high))) for out in outs]
    answers = put_answers(draft, nodes, weights)
    result = (tuple(draft.nodes), tuple(answers))
    check_graph(result)
    return result
