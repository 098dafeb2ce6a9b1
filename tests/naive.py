"""What DOC.md says of elements and slopes, element by element, written without the program."""

from itertools import product


def part(shape, values, at):
    """Return the element at the indexes that a dict gives for the letters."""
    return values[tuple(at[letter] for letter, _ in shape)]


def all_indexes(shape):
    for index in product(*[range(size) for _, size in shape]):
        yield dict(zip([letter for letter, _ in shape], index))


def limit(n, low, high):
    return low if n < low else high if n > high else n


def union(first, second):
    return first + tuple(axis for axis in second if axis[0] not in [letter for letter, _ in first])


def shape_of(kind, info, shapes):
    if kind in ("input", "const"):
        return info[0]
    sizes = dict(shapes[0])
    if kind in ("sum", "peak"):
        return tuple(axis for axis in shapes[0] if axis[0] != info[0])
    if kind == "dot":
        return tuple(axis for axis in union(*shapes) if axis[0] != info[0])
    if kind == "order":
        return tuple((letter, sizes[letter]) for letter in info[0])
    if kind == "rename":
        return tuple((info[1], size) if letter == info[0] else (letter, size) for letter, size in shapes[0])
    if kind == "spread":
        return shapes[0] + (info,)
    result = []
    for letter, size in shapes[0]:
        if kind == "fold" and letter == info[1]:
            continue
        if kind not in ("cut", "pad", "join", "window", "fold", "gather") or letter != info[0]:
            result.append((letter, size))
        elif kind == "cut":
            result.append((letter, info[2]))
        elif kind == "pad":
            result.append((letter, info[1] + size + info[2]))
        elif kind == "join":
            result.append((letter, size + dict(shapes[1])[letter]))
        elif kind == "window":
            result.extend([(letter, (size - info[2]) // info[3] + 1), (info[1], info[2])])
        elif kind == "fold":
            result.append((letter, info[3]))
        else:
            result.extend(shapes[1])
    for other in shapes[1:] if kind not in ("join", "gather") else ():
        result = list(union(tuple(result), other))
    return tuple(result)


def pointwise(kind, values, info):
    a, b = values[0], values[1] if len(values) > 1 else None
    if kind == "add":
        return a + b
    if kind == "sub":
        return a - b
    if kind == "mul":
        return a * b
    if kind == "max":
        return a if a > b else b
    if kind == "min":
        return a if a < b else b
    if kind == "less":
        return int(a < b)
    if kind == "equal":
        return int(a == b)
    if kind == "neg":
        return -a
    if kind == "clamp":
        return limit(a, *info)
    if kind == "shift":
        return (a + 2 ** (info[0] - 1)) // 2 ** info[0]
    assert kind == "where"
    return b if a != 0 else values[2]


POINTWISE = ("add", "sub", "mul", "max", "min", "less", "equal", "neg", "clamp", "shift", "where")


def reduced(kind, info, shapes, values, at):
    """Return an element of a reducing kind."""
    sizes = dict(shapes[0])
    if kind == "fold":
        axis, second, stride, _ = info
        total = 0
        for x in range(sizes[axis]):
            for y in range(sizes[second]):
                if stride * x + y == at[axis]:
                    total += part(shapes[0], values[0], {**at, axis: x, second: y})
        return total
    places = [{**at, info[0]: k} for k in range(sizes[info[0]])]
    row = [part(shapes[0], values[0], place) for place in places]
    if kind == "peak":
        return max(row)
    if kind == "sum":
        return sum(row)
    return sum(n * part(shapes[1], values[1], place) for n, place in zip(row, places))


def moved(kind, info, shapes, values, at):
    """Return an element of a kind that moves elements."""
    a = (shapes[0], values[0])
    if kind in ("order", "spread"):
        return part(*a, at)
    if kind == "rename":
        return part(*a, {**at, info[0]: at[info[1]]})
    x, size = at[info[0]] if kind != "gather" else 0, dict(shapes[0])[info[0]]
    if kind == "cut":
        return part(*a, {**at, info[0]: info[1] + x})
    if kind == "pad":
        return part(*a, {**at, info[0]: x - info[1]}) if 0 <= x - info[1] < size else 0
    if kind == "join":
        return part(*a, at) if x < size else part(shapes[1], values[1], {**at, info[0]: x - size})
    if kind == "window":
        return part(*a, {**at, info[0]: info[3] * x + at[info[1]]})
    assert kind == "gather"
    return part(*a, {**at, info[0]: limit(part(shapes[1], values[1], at), 0, size - 1)})


def element(kind, info, shapes, values, at):
    if kind in POINTWISE:
        return pointwise(kind, [part(s, v, at) for s, v in zip(shapes, values)], info)
    if kind in ("sum", "peak", "dot", "fold"):
        return reduced(kind, info, shapes, values, at)
    return moved(kind, info, shapes, values, at)


def filled(shape, data):
    return {tuple(at.values()): n for at, n in zip(all_indexes(shape), data)}


def tables(graph, feeds):
    """Return the shapes of all nodes, and a dict from indexes to elements for each."""
    shapes, values, fed = [], [], iter(feeds)
    for kind, args, info in graph[0]:
        shape = shape_of(kind, info, [shapes[arg] for arg in args])
        if kind in ("input", "const"):
            table = filled(shape, next(fed) if kind == "input" else info[1])
        else:
            own = ([shapes[arg] for arg in args], [values[arg] for arg in args])
            table = {tuple(at.values()): element(kind, info, *own, at) for at in all_indexes(shape)}
        shapes.append(shape)
        values.append(table)
    return shapes, values


def values_of(graph, feeds):
    """Return the elements of all nodes in row-major order."""
    return tuple(tuple(table.values()) for table in tables(graph, feeds)[1])


SAME = ("add", "sub", "neg", "sum", "order", "rename", "spread", "cut", "pad", "join", "window", "fold")


def slope(kind, info, shapes, values, slopes, at):
    """Return the slope of an element."""
    here = [part(s, v, at) for s, v in zip(shapes, values)] if kind in POINTWISE else []
    turn = [part(s, v, at) for s, v in zip(shapes, slopes)] if kind in POINTWISE else []
    if kind in ("less", "equal", "shift"):
        return 0
    if kind in SAME:
        return element(kind, info, shapes, slopes, at)
    if kind in ("mul", "dot"):
        first = element(kind, info, shapes, [slopes[0], values[1]], at)
        return first + element(kind, info, shapes, [values[0], slopes[1]], at)
    if kind == "max":
        return turn[1] if here[0] < here[1] else turn[0]
    if kind == "min":
        return turn[0] if here[0] < here[1] else turn[1]
    if kind == "clamp":
        return turn[0] if info[0] <= here[0] <= info[1] else 0
    if kind == "where":
        return turn[1] if here[0] != 0 else turn[2]
    if kind == "gather":
        return element(kind, info, shapes, [slopes[0], values[1]], at)
    assert kind == "peak"
    places = [{**at, info[0]: k} for k in range(dict(shapes[0])[info[0]])]
    row = [part(shapes[0], values[0], place) for place in places]
    return part(shapes[0], slopes[0], places[row.index(max(row))])


def slopes_of(graph, feeds, direction):
    """Return the slopes of all nodes in row-major order."""
    shapes, values = tables(graph, feeds)
    slopes, ways = [], iter(direction)
    for at_node, (kind, args, info) in enumerate(graph[0]):
        shape = shapes[at_node]
        if kind == "input":
            table = filled(shape, next(ways))
        elif kind == "const":
            table = {tuple(at.values()): 0 for at in all_indexes(shape)}
        else:
            own = [[rows[arg] for arg in args] for rows in (shapes, values, slopes)]
            table = {tuple(at.values()): slope(kind, info, *own, at) for at in all_indexes(shape)}
        slopes.append(table)
    return tuple(tuple(table.values()) for table in slopes)
