"""The kinds of nodes: their args, their fields, and what the pointwise ones make of numbers."""

NODE_LIMIT = 400
WORK_LIMIT = 50000
WIDTH_LIMIT = 200

KINDS = (
    "input", "const", "add", "sub", "mul", "max", "min", "less", "equal", "neg", "clamp", "shift", "where",
    "sum", "peak", "dot", "order", "rename", "spread", "cut", "pad", "join", "window", "fold", "gather",
)

POINTWISE = ("add", "sub", "mul", "max", "min", "less", "equal", "neg", "clamp", "shift", "where")

ARITIES = {
    "input": 0, "const": 0,
    "add": 2, "sub": 2, "mul": 2, "max": 2, "min": 2, "less": 2, "equal": 2,
    "neg": 1, "clamp": 1, "shift": 1, "where": 3,
    "sum": 1, "peak": 1, "dot": 2, "order": 1, "rename": 1, "spread": 1, "cut": 1, "pad": 1,
    "join": 2, "window": 1, "fold": 1, "gather": 2,
}

FIELDS = {
    "input": ("shape", "low", "high"), "const": ("shape", "data"),
    "add": (), "sub": (), "mul": (), "max": (), "min": (), "less": (), "equal": (),
    "neg": (), "clamp": ("low", "high"), "shift": ("n",), "where": (),
    "sum": ("axis",), "peak": ("axis",), "dot": ("axis",), "order": ("letters",), "rename": ("axis", "new"),
    "spread": ("axis", "size"), "cut": ("axis", "start", "count"), "pad": ("axis", "before", "after"),
    "join": ("axis",), "window": ("axis", "new", "width", "stride"),
    "fold": ("axis", "second", "stride", "size"), "gather": ("axis",),
}


def limit(n, low, high):
    """Return n, or the end of the interval that it lies beyond."""
    if n < low:
        return low
    return high if n > high else n


def rounded(x, n):
    """Return x / 2^n, rounded to the nearest integer, a half up."""
    return (x + (1 << (n - 1))) >> n


def add_values(values, info):
    return values[0] + values[1]


def sub_values(values, info):
    return values[0] - values[1]


def mul_values(values, info):
    return values[0] * values[1]


def max_values(values, info):
    return max(values)


def min_values(values, info):
    return min(values)


def less_values(values, info):
    return 1 if values[0] < values[1] else 0


def equal_values(values, info):
    return 1 if values[0] == values[1] else 0


def neg_value(values, info):
    return -values[0]


def clamp_value(values, info):
    return limit(values[0], info[0], info[1])


def shift_value(values, info):
    return rounded(values[0], info[0])


def where_values(values, info):
    return values[1] if values[0] != 0 else values[2]


ACTIONS = {
    "add": add_values, "sub": sub_values, "mul": mul_values, "max": max_values, "min": min_values,
    "less": less_values, "equal": equal_values, "neg": neg_value, "clamp": clamp_value,
    "shift": shift_value, "where": where_values,
}


def pointwise(kind, values, info):
    """Return the element that a pointwise kind makes of the elements of its arguments."""
    action = ACTIONS[kind]
    return action(values, info)
