"""What nodes hold, worked out over any table that makes numbers and pointwise results.

The same steps make numbers of numbers (evaluation) and terms of terms.
"""

from tensorworks.kinds import POINTWISE
from tensorworks.shapes import count_of, size_of


def steps_of(shape):
    """Return how far apart neighbours along each axis are in row-major order."""
    steps = {}
    step = 1
    for letter, size in reversed(shape):
        steps[letter] = step
        step = step * size
    return steps


def walk(shape, steps, start):
    """Return the positions met when the elements of a shape are visited in row-major order.

    An axis without a step does not move the position.
    """
    places = [start]
    for letter, size in shape:
        step = steps.get(letter, 0)
        places = [place + step * index for place in places for index in range(size)]
    return places


def along(shape, axis, starts):
    """Return, for each start, the positions along an axis from there on."""
    step = steps_of(shape)[axis]
    return [[start + step * index for index in range(size_of(shape, axis))] for start in starts]


def chained(table, kind, row):
    """Return what comes of combining the items of a row, from the first one on."""
    result = row[0]
    for item in row[1:]:
        result = table.make(kind, (result, item), ())
    return result


def pointwise_row(table, kind, info, shapes, shape, rows):
    """Return the elements of a pointwise node."""
    columns = []
    for own, row in zip(shapes, rows):
        columns.append([row[place] for place in walk(shape, steps_of(own), 0)])
    return [table.make(kind, parts, info) for parts in zip(*columns)]


def reduced_row(table, kind, info, shapes, shape, rows):
    """Return the elements of a sum or a peak."""
    starts = walk(shape, steps_of(shapes[0]), 0)
    lanes = [[rows[0][place] for place in lane] for lane in along(shapes[0], info[0], starts)]
    return [chained(table, "add" if kind == "sum" else "max", lane) for lane in lanes]


def dot_row(table, kind, info, shapes, shape, rows):
    """Return the elements of a dot."""
    lanes = []
    for own, row in zip(shapes, rows):
        starts = walk(shape, steps_of(own), 0)
        lanes.append([[row[place] for place in lane] for lane in along(own, info[0], starts)])
    result = []
    for first, second in zip(lanes[0], lanes[1]):
        products = [table.make("mul", pair, ()) for pair in zip(first, second)]
        result.append(chained(table, "add", products))
    return result


def moved_row(table, kind, info, shapes, shape, rows):
    """Return the elements of a node that only moves those of its arg."""
    steps = steps_of(shapes[0])
    start = 0
    if kind == "rename":
        steps[info[1]] = steps[info[0]]
    if kind == "cut":
        start = info[1] * steps[info[0]]
    if kind == "window":
        axis, new, _, stride = info
        steps[new] = steps[axis]
        steps[axis] = stride * steps[axis]
    return [rows[0][place] for place in walk(shape, steps, start)]


def pad_row(table, kind, info, shapes, shape, rows):
    """Return the elements of a pad."""
    axis, before, _ = info
    steps = steps_of(shape)
    result = [table.number(0)] * count_of(shape)
    for place, item in zip(walk(shapes[0], steps, before * steps[axis]), rows[0]):
        result[place] = item
    return result


def join_row(table, kind, info, shapes, shape, rows):
    """Return the elements of a join."""
    steps = steps_of(shape)
    behind = size_of(shapes[0], info[0]) * steps[info[0]]
    result = [None] * count_of(shape)
    for own, row, start in zip(shapes, rows, (0, behind)):
        for place, item in zip(walk(own, steps, start), row):
            result[place] = item
    return result


def fold_row(table, kind, info, shapes, shape, rows):
    """Return the elements of a fold."""
    axis, second, stride, _ = info
    steps = steps_of(shape)
    steps[second] = steps[axis]
    steps[axis] = stride * steps[axis]
    result = [table.number(0)] * count_of(shape)
    for place, item in zip(walk(shapes[0], steps, 0), rows[0]):
        result[place] = table.make("add", (result[place], item), ())
    return result


def gather_row(table, kind, info, shapes, shape, rows):
    """Return the elements of a gather."""
    first, second = shapes
    steps = steps_of(first)
    # Only the axes of a move the start of a lane; those of i tell which element of it is meant.
    starts = walk(shape, {letter: steps[letter] for letter, _ in first if letter != info[0]}, 0)
    last = size_of(first, info[0]) - 1
    result = []
    for lane, place in zip(along(first, info[0], starts), walk(shape, steps_of(second), 0)):
        index = table.make("clamp", (rows[1][place],), (0, last))
        result.append(table.pick(tuple([rows[0][at] for at in lane]), index))
    return result


CARRIERS = {
    "sum": reduced_row, "peak": reduced_row, "dot": dot_row, "order": moved_row, "rename": moved_row,
    "spread": moved_row, "cut": moved_row, "pad": pad_row, "join": join_row, "window": moved_row,
    "fold": fold_row, "gather": gather_row,
}


def computed_row(table, node, shapes, shape, rows):
    """Return the tuple of the elements of a computed node, given those of its args."""
    kind, _, info = node
    if kind in POINTWISE:
        return tuple(pointwise_row(table, kind, info, shapes, shape, rows))
    action = CARRIERS[kind]
    return tuple(action(table, kind, info, shapes, shape, rows))


def all_rows(table, nodes, domains, fed):
    """Return the tuples of the elements of all nodes; fed has those of the inputs, in order."""
    rows = []
    used = 0
    for (kind, args, info), domain in zip(nodes, domains):
        if kind == "input":
            rows.append(fed[used])
            used += 1
        elif kind == "const":
            rows.append(tuple([table.number(n) for n in info[1]]))
        else:
            shapes = [domains[arg][0] for arg in args]
            rows.append(computed_row(table, (kind, args, info), shapes, domain[0], [rows[arg] for arg in args]))
    return tuple(rows)
