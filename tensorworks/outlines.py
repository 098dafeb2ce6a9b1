"""The shapes of the results of the kinds, worked out without asking whether they are valid."""

from tensorworks.kinds import POINTWISE
from tensorworks.shapes import size_of, union


def changed(shape, axis, axes):
    """Return the shape with other axes in the place of one."""
    parts = [axes if here[0] == axis else (here,) for here in shape]
    return tuple([part for row in parts for part in row])


def united(shapes):
    """Return the axes of all shapes, each letter once."""
    result = shapes[0]
    for shape in shapes[1:]:
        result = union(result, shape)
    return result


def reduced_shape(shapes, info):
    return changed(united(shapes), info[0], ())


def order_shape(shapes, info):
    return tuple([(letter, size_of(shapes[0], letter)) for letter in info[0]])


def rename_shape(shapes, info):
    axis, new = info
    return changed(shapes[0], axis, ((new, size_of(shapes[0], axis)),))


def spread_shape(shapes, info):
    axis, size = info
    return shapes[0] + ((axis, size),)


def cut_shape(shapes, info):
    axis, _, count = info
    return changed(shapes[0], axis, ((axis, count),))


def pad_shape(shapes, info):
    axis, before, after = info
    return changed(shapes[0], axis, ((axis, before + size_of(shapes[0], axis) + after),))


def join_shape(shapes, info):
    axis = info[0]
    return changed(shapes[0], axis, ((axis, size_of(shapes[0], axis) + size_of(shapes[1], axis)),))


def window_shape(shapes, info):
    axis, new, width, stride = info
    return changed(shapes[0], axis, ((axis, (size_of(shapes[0], axis) - width) // stride + 1), (new, width)))


def fold_shape(shapes, info):
    axis, second, _, size = info
    return changed(changed(shapes[0], second, ()), axis, ((axis, size),))


def gather_shape(shapes, info):
    return changed(shapes[0], info[0], shapes[1])


OUTLINES = {
    "sum": reduced_shape, "peak": reduced_shape, "dot": reduced_shape, "order": order_shape,
    "rename": rename_shape, "spread": spread_shape, "cut": cut_shape, "pad": pad_shape, "join": join_shape,
    "window": window_shape, "fold": fold_shape, "gather": gather_shape,
}


def outline(kind, shapes, info):
    """Return the shape of the result of a computed kind."""
    if kind in POINTWISE:
        return united(shapes)
    action = OUTLINES[kind]
    return action(shapes, info)
