"""Which nodes hang on inputs, and how smoothly they do."""

SMOOTH = (
    "input", "add", "sub", "mul", "neg", "sum", "dot", "order", "rename", "spread", "cut", "pad", "join", "window",
    "fold",
)
CREASED = ("max", "min", "clamp", "peak")
# Of these kinds one arg only chooses among the elements of the others.
CHOOSERS = {"gather": 1, "where": 0}


def reached_nodes(nodes, sources):
    """Return for each node whether it is one of the sources, or one of its args is reached."""
    reached = []
    for at, (_, args, _) in enumerate(nodes):
        reached.append(at in sources or any([reached[arg] for arg in args]))
    return reached


def is_smooth(node, reached):
    """Tell whether a reached node is smooth."""
    kind, args, _ = node
    if kind in CHOOSERS:
        return not reached[args[CHOOSERS[kind]]]
    return kind in SMOOTH


def is_rough(node, reached):
    """Tell whether a reached node is neither smooth nor creased."""
    return node[0] not in CREASED and not is_smooth(node, reached)
