"""A graph in the making, and the nodes that derivatives have in common."""

from tensorworks.outlines import outline
from tensorworks.shapes import count_of, size_of


class Draft:
    """Nodes that are put one behind the other, with their shapes, which need not be valid."""

    def __init__(self):
        self.nodes = []
        self.shapes = []

    def put(self, kind, args, info):
        """Put a node behind the others and return its index."""
        if kind in ("input", "const"):
            shape = info[0]
        else:
            shape = outline(kind, [self.shapes[arg] for arg in args], info)
        self.nodes.append((kind, args, info))
        self.shapes.append(shape)
        return len(self.nodes) - 1


def put_zeros(draft, shape):
    """Put a const with a shape and data 0."""
    return draft.put("const", (), (shape, (0,) * count_of(shape)))


def put_number(draft, n):
    """Put a const with the empty shape."""
    return draft.put("const", (), ((), (n,)))


def put_count(draft, axis, size):
    """Put a const that counts along an axis."""
    return draft.put("const", (), (((axis, size),), tuple(range(size))))


def put_mask(draft, peak):
    """Put the nodes of the mask of a peak: 1 at the first of the greatest elements, 0 elsewhere."""
    _, args, info = draft.nodes[peak]
    size = size_of(draft.shapes[args[0]], info[0])
    greatest = draft.put("equal", (args[0], peak), ())
    count = put_count(draft, info[0], size)
    beyond = put_number(draft, size)
    places = draft.put("where", (greatest, count, beyond), ())
    # There is no least along an axis: it is the opposite of the greatest opposite.
    turned = draft.put("neg", (places,), ())
    last = draft.put("peak", (turned,), info)
    first = draft.put("neg", (last,), ())
    return draft.put("equal", (count, first), ())
