"""The table of the rules: what stands on the left, and what is made on the right.

A pattern is a kind, its args and its fields. An arg is a pattern or the name of a node; a field has a
name too, and the same name is the same node or field. On the right an arg is also the number of a node
that was made just before. Where a right side is a name, the node with this name takes the place.
"""

LEFT = {
    "add-swap": ("add", ("x", "y"), ()),
    "add-left": ("add", ("x", ("add", ("y", "z"), ())), ()),
    "add-right": ("add", (("add", ("x", "y"), ()), "z"), ()),
    "mul-swap": ("mul", ("x", "y"), ()),
    "mul-left": ("mul", ("x", ("mul", ("y", "z"), ())), ()),
    "mul-right": ("mul", (("mul", ("x", "y"), ()), "z"), ()),
    "mul-over": ("mul", ("x", ("add", ("y", "z"), ())), ()),
    "mul-out": ("add", (("mul", ("x", "y"), ()), ("mul", ("x", "z"), ())), ()),
    "sub-neg": ("sub", ("x", "y"), ()),
    "neg-sub": ("add", ("x", ("neg", ("y",), ())), ()),
    "neg-neg": ("neg", (("neg", ("x",), ()),), ()),
    "add-zero": ("add", ("x", "c"), ()),
    "mul-one": ("mul", ("x", "c"), ()),
    "sum-add": ("sum", (("add", ("x", "y"), ()),), ("k",)),
    "add-sum": ("add", (("sum", ("x",), ("k",)), ("sum", ("y",), ("k",))), ()),
    "sum-dot": ("sum", (("mul", ("x", "y"), ()),), ("k",)),
    "dot-sum": ("dot", ("x", "y"), ("k",)),
    "sum-mul": ("sum", (("mul", ("x", "y"), ()),), ("k",)),
    "mul-sum": ("mul", ("x", ("sum", ("y",), ("k",))), ()),
    "dot-left": ("dot", (("dot", ("x", "y"), ("j",)), "z"), ("k",)),
    "dot-right": ("dot", ("x", ("dot", ("y", "z"), ("k",))), ("j",)),
    "order-order": ("order", (("order", ("x",), ("p",)),), ("q",)),
    "order-none": ("order", ("x",), ("p",)),
    "clamp-clamp": ("clamp", (("clamp", ("x",), ("a", "b")),), ("c", "d")),
    "clamp-none": ("clamp", ("x",), ("c", "d")),
    "max-same": ("max", ("x", "x"), ()),
    "max-left": ("max", ("x", "y"), ()),
    "less-known": ("less", ("x", "y"), ()),
    "where-same": ("where", ("x", "y", "y"), ()),
    "cut-pad": ("cut", (("pad", ("x",), ("k", "b", "e")),), ("k", "b", "S")),
}

RIGHT = {
    "add-swap": (("add", ("y", "x"), ()),),
    "add-left": (("add", ("x", "y"), ()), ("add", (0, "z"), ())),
    "add-right": (("add", ("y", "z"), ()), ("add", ("x", 0), ())),
    "mul-swap": (("mul", ("y", "x"), ()),),
    "mul-left": (("mul", ("x", "y"), ()), ("mul", (0, "z"), ())),
    "mul-right": (("mul", ("y", "z"), ()), ("mul", ("x", 0), ())),
    "mul-over": (("mul", ("x", "y"), ()), ("mul", ("x", "z"), ()), ("add", (0, 1), ())),
    "mul-out": (("add", ("y", "z"), ()), ("mul", ("x", 0), ())),
    "sub-neg": (("neg", ("y",), ()), ("add", ("x", 0), ())),
    "neg-sub": (("sub", ("x", "y"), ()),),
    "neg-neg": "x",
    "add-zero": "x",
    "mul-one": "x",
    "sum-add": (("sum", ("x",), ("k",)), ("sum", ("y",), ("k",)), ("add", (0, 1), ())),
    "add-sum": (("add", ("x", "y"), ()), ("sum", (0,), ("k",))),
    "sum-dot": (("dot", ("x", "y"), ("k",)),),
    "dot-sum": (("mul", ("x", "y"), ()), ("sum", (0,), ("k",))),
    "sum-mul": (("sum", ("y",), ("k",)), ("mul", ("x", 0), ())),
    "mul-sum": (("mul", ("x", "y"), ()), ("sum", (0,), ("k",))),
    "dot-left": (("dot", ("y", "z"), ("k",)), ("dot", ("x", 0), ("j",))),
    "dot-right": (("dot", ("x", "y"), ("j",)), ("dot", (0, "z"), ("k",))),
    "order-order": (("order", ("x",), ("q",)),),
    "order-none": "x",
    "clamp-clamp": (("clamp", ("x",), ("low", "high")),),
    "clamp-none": "x",
    "max-same": "x",
    "max-left": "x",
    "less-known": (("const", (), ("shape", "data")),),
    "where-same": "y",
    "cut-pad": "x",
}


def found_pairs(nodes, pattern, at):
    """Return the pairs of a name and what it stands for, or None if a kind differs."""
    kind, args, fields = pattern
    node = nodes[at]
    if node[0] != kind:
        return None
    pairs = list(zip(fields, node[2]))
    for part, arg in zip(args, node[1]):
        inner = [(part, arg)] if isinstance(part, str) else found_pairs(nodes, part, arg)
        if inner is None:
            return None
        pairs = pairs + inner
    return pairs


def matched(nodes, rule, at):
    """Return a dict of what the names on the left side of a rule stand for, or None if it does not match."""
    pairs = found_pairs(nodes, LEFT[rule], at)
    if pairs is None:
        return None
    found = {}
    for name, thing in pairs:
        if found.setdefault(name, thing) != thing:
            return None
    return found


def made_nodes(rule, found, at):
    """Return the nodes that the right side of a rule makes at a place, and what takes the place."""
    right = RIGHT[rule]
    if isinstance(right, str):
        return ((), found[right])
    made = []
    for kind, args, fields in right:
        places = [found[arg] if isinstance(arg, str) else at + arg for arg in args]
        made.append((kind, tuple(places), tuple([found[field] for field in fields])))
    return (tuple(made), at + len(made) - 1)
