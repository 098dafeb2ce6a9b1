"""The domain of a node: its shape and its interval, and the errors of a node."""

from tensorworks.errors import AxisError, FormError, KindError, RangeError, TooWide
from tensorworks.intervals import computed_span
from tensorworks.kinds import ARITIES, FIELDS, KINDS, POINTWISE, WIDTH_LIMIT
from tensorworks.outlines import outline
from tensorworks.shapes import broadcast, check_shape, clash, count_of, letters_of, size_of

FROM_ONE = ("size", "count", "width", "stride")
FROM_ZERO = ("start", "before", "after")
FIELD_LIMIT = 16
SHIFT_LIMIT = 30


def is_narrow(low, high):
    """Tell whether both ends of an interval are within the limit of width."""
    bound = 1 << WIDTH_LIMIT
    return -bound <= low and high <= bound


def check_form(node, many):
    """Raise the error of a node that has a wrong kind or wrong numbers of args, fields or data."""
    kind, args, info = node
    if kind not in KINDS:
        raise KindError("no such kind")
    if len(args) != ARITIES[kind] or len(info) != len(FIELDS[kind]):
        raise FormError("wrong number of args or fields")
    if kind == "const" and len(info[1]) != count_of(info[0]):
        raise FormError("wrong number of data")
    for arg in args:
        if not 0 <= arg < many:
            raise FormError("an arg is not an earlier node")


def check_fields(kind, info):
    """Raise the error of a field that is out of its range."""
    if kind in ("input", "clamp") and info[-2] > info[-1]:
        raise RangeError("low is greater than high")
    if kind == "clamp" and not is_narrow(info[0], info[1]):
        raise RangeError("an end of clamp is out of its range")
    if kind == "shift" and not 1 <= info[0] <= SHIFT_LIMIT:
        raise RangeError("n is out of its range")
    for name, n in zip(FIELDS[kind], info):
        if name in FROM_ONE and not 1 <= n <= FIELD_LIMIT:
            raise RangeError("a field is not from 1 to 16")
        if name in FROM_ZERO and not 0 <= n <= FIELD_LIMIT:
            raise RangeError("a field is not from 0 to 16")


def join_fits(shapes, axis):
    """Tell whether two shapes differ in the size of one axis at most."""
    first, second = shapes
    if letters_of(first) != letters_of(second):
        return False
    return all([a == b or a[0] == axis for a, b in zip(first, second)])


def axes_fit(kind, shapes, info):
    """Tell whether the axes that a node names are there, and those that it makes are new."""
    letters = letters_of(shapes[0])
    if kind == "order":
        return sorted(info[0]) == sorted(letters)
    if kind == "spread":
        return info[0] not in letters
    if info[0] not in letters:
        return False
    if kind in ("rename", "window"):
        return info[1] not in letters
    if kind == "dot":
        return info[0] in letters_of(shapes[1])
    if kind == "fold":
        return info[1] in letters and info[1] != info[0]
    if kind == "join":
        return join_fits(shapes, info[0])
    if kind == "gather":
        return not any([letter in letters for letter, _ in shapes[1]])
    return True


def check_room(kind, shapes, info):
    """Raise the error of a node that reaches beyond an axis."""
    if kind == "cut":
        axis, start, count = info
        if start + count > size_of(shapes[0], axis):
            raise RangeError("the cut reaches beyond the axis")
    if kind == "window":
        axis, _, width, _ = info
        if width > size_of(shapes[0], axis):
            raise RangeError("the window is wider than the axis")
    if kind == "fold":
        axis, second, stride, size = info
        if stride * (size_of(shapes[0], axis) - 1) + size_of(shapes[0], second) > size:
            raise RangeError("the fold reaches beyond its size")


def check_broadcasts(kind, shapes):
    """Raise the errors of the broadcasts that a node makes of the shapes of its args."""
    if kind == "dot":
        if clash(shapes[0], shapes[1]):
            raise AxisError("an axis has different sizes")
    elif kind in POINTWISE:
        shape = shapes[0]
        for other in shapes[1:]:
            shape = broadcast(shape, other)


def source_domain(kind, info):
    """Return the domain of an input or a const."""
    check_shape(info[0])
    if kind == "input":
        return info
    return (info[0], min(info[1]), max(info[1]))


def computed_domain(node, domains):
    """Return the domain of a computed node whose form and fields are right."""
    kind, args, info = node
    shapes = [domains[arg][0] for arg in args]
    if kind not in POINTWISE:
        if not axes_fit(kind, shapes, info):
            raise AxisError("axes are missing, doubled or do not go together")
        check_room(kind, shapes, info)
    check_broadcasts(kind, shapes)
    shape = outline(kind, shapes, info)
    check_shape(shape)
    low, high = computed_span(kind, [domains[arg][1:] for arg in args], shapes, info)
    return (shape, low, high)


def domain_of(node, domains):
    """Return the domain of a node, given those of all nodes before it."""
    kind, _, info = node
    check_form(node, len(domains))
    check_fields(kind, info)
    domain = source_domain(kind, info) if kind in ("input", "const") else computed_domain(node, domains)
    if not is_narrow(domain[1], domain[2]):
        raise TooWide("an end of the interval is too far from 0")
    return domain
