"""The intervals in which the results of the kinds lie, from those of their arguments."""

from tensorworks.kinds import POINTWISE, limit, rounded
from tensorworks.shapes import size_of


def corners(a, b):
    """Return the interval of the products of the numbers of two intervals."""
    ends = (a[0] * b[0], a[0] * b[1], a[1] * b[0], a[1] * b[1])
    return (min(ends), max(ends))


def hull(a, b):
    """Return the least interval that contains two intervals."""
    return (min(a[0], b[0]), max(a[1], b[1]))


def scaled(span, n):
    """Return the interval of n times the numbers of an interval."""
    ends = (span[0] * n, span[1] * n)
    return ends if n >= 0 else ends[::-1]


def add_span(spans, info):
    return (spans[0][0] + spans[1][0], spans[0][1] + spans[1][1])


def sub_span(spans, info):
    return (spans[0][0] - spans[1][1], spans[0][1] - spans[1][0])


def mul_span(spans, info):
    return corners(spans[0], spans[1])


def max_span(spans, info):
    return (max([low for low, _ in spans]), max([high for _, high in spans]))


def min_span(spans, info):
    return (min([low for low, _ in spans]), min([high for _, high in spans]))


def truth_span(spans, info):
    return (0, 1)


def neg_span(spans, info):
    return (-spans[0][1], -spans[0][0])


def clamp_span(spans, info):
    low, high = spans[0]
    return (limit(low, info[0], info[1]), limit(high, info[0], info[1]))


def shift_span(spans, info):
    low, high = spans[0]
    return (rounded(low, info[0]), rounded(high, info[0]))


def where_span(spans, info):
    return hull(spans[1], spans[2])


SPANS = {
    "add": add_span, "sub": sub_span, "mul": mul_span, "max": max_span, "min": min_span,
    "less": truth_span, "equal": truth_span, "neg": neg_span, "clamp": clamp_span,
    "shift": shift_span, "where": where_span,
}


def pointwise_span(kind, spans, info):
    """Return the interval of a pointwise kind; max and min take any number of intervals."""
    action = SPANS[kind]
    return action(spans, info)


def computed_span(kind, spans, shapes, info):
    """Return the interval of a computed node."""
    if kind in POINTWISE:
        return pointwise_span(kind, spans, info)
    if kind == "sum":
        return scaled(spans[0], size_of(shapes[0], info[0]))
    if kind == "dot":
        return scaled(corners(spans[0], spans[1]), size_of(shapes[0], info[0]))
    if kind == "pad":
        return hull(spans[0], (0, 0))
    if kind == "join":
        return hull(spans[0], spans[1])
    if kind == "fold":
        return hull(scaled(spans[0], size_of(shapes[0], info[1])), (0, 0))
    return spans[0]
