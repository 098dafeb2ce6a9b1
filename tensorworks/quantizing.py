"""Models turned into graphs on codes, and numbers into codes and back."""

from tensorworks.drafts import Draft, put_number
from tensorworks.errors import FeedError, RangeError
from tensorworks.graphs import check_graph, input_places
from tensorworks.meaning import check_feeds
from tensorworks.ratios import over, times
from tensorworks.scales import MOVING, checked_domains, code_of, code_range, meaning_of, multiplier
from tensorworks.shapes import count_of

PRODUCTS = ("mul", "dot")


def put_less(draft, made, zero):
    """Put a node less a zero."""
    if zero == 0:
        return made
    return draft.put("sub", (made, put_number(draft, zero)), ())


def put_more(draft, made, zero):
    """Put a node and a zero added to it."""
    if zero == 0:
        return made
    return draft.put("add", (made, put_number(draft, zero)), ())


def put_times(draft, made, factor):
    """Put a node times a fraction."""
    m, shift = multiplier(factor)
    if m == 1 << shift:
        return made
    product = draft.put("mul", (made, put_number(draft, m)), ())
    return draft.put("shift", (product,), (shift,))


def put_end(draft, made, zero, bits):
    """Put the nodes that make codes of multiples of a scale."""
    return draft.put("clamp", (put_more(draft, made, zero),), code_range(bits))


def source_codes(node, pair, bits):
    """Return the fields of the input or const on codes."""
    kind, _, info = node
    if kind == "input":
        return (info[0],) + code_range(bits)
    return (info[0], tuple([code_of(pair, bits, (n, 1)) for n in info[1]]))


def put_moved(draft, node, pair, made):
    """Put what stands for a moving node, given what stands for its arg."""
    kind, _, info = node
    if kind != "pad":
        return draft.put(kind, (made,), info)
    # What a pad adds is 0, whose code is the zero.
    padded = draft.put(kind, (put_less(draft, made, pair[1]),), info)
    return put_more(draft, padded, pair[1])


def put_computed(draft, node, pair, pairs, made, bits):
    """Put what stands for a node that is no source and does not move; pairs and made are those of its args."""
    kind, _, info = node
    scale, zero = pair
    if kind in PRODUCTS or len(made) == 1:
        parts = [put_less(draft, part, own) for part, (_, own) in zip(made, pairs)]
        factor = scale_of(kind, pairs)
        return put_end(draft, put_times(draft, draft.put(kind, tuple(parts), info), over(factor, scale)), zero, bits)
    parts = []
    for part, (own, own_zero) in zip(made, pairs):
        parts.append(put_times(draft, put_less(draft, part, own_zero), over(own, scale)))
    return put_end(draft, draft.put(kind, tuple(parts), info), zero, bits)


def scale_of(kind, pairs):
    """Return the scale in which a product or the result of one arg comes."""
    if kind in PRODUCTS:
        return times(pairs[0][0], pairs[1][0])
    return pairs[0][0]


def quantize_graph(graph, table, bits):
    """Return the graph on codes."""
    checked_domains(graph, table, bits)
    draft = Draft()
    stands = []
    for node, pair in zip(graph[0], table):
        kind, args, _ = node
        if not args:
            stands.append(draft.put(kind, (), source_codes(node, pair, bits)))
        elif kind in MOVING:
            stands.append(put_moved(draft, node, pair, stands[args[0]]))
        else:
            made = [stands[arg] for arg in args]
            stands.append(put_computed(draft, node, pair, [table[arg] for arg in args], made, bits))
    result = (tuple(draft.nodes), tuple([stands[out] for out in graph[1]]))
    check_graph(result)
    return result


def encode_feeds(graph, table, bits, feeds):
    """Return the feeds of codes."""
    domains = checked_domains(graph, table, bits)
    check_feeds(graph[0], domains, feeds)
    pairs = [table[place] for place in input_places(graph[0])]
    return tuple([tuple([code_of(pair, bits, (n, 1)) for n in feed]) for pair, feed in zip(pairs, feeds)])


def check_codes(counts, bits, rows):
    """Raise the error of codes that do not fill the outputs."""
    if len(rows) != len(counts):
        raise FeedError("not as many tuples as outputs")
    if any([len(row) != count for row, count in zip(rows, counts)]):
        raise FeedError("wrong number of codes")
    low, high = code_range(bits)
    if any([not low <= code <= high for row in rows for code in row]):
        raise RangeError("not a code")


def decode_outputs(graph, table, bits, values):
    """Return the fractions that codes for the outputs mean."""
    domains = checked_domains(graph, table, bits)
    check_codes([count_of(domains[out][0]) for out in graph[1]], bits, values)
    pairs = [table[out] for out in graph[1]]
    return tuple([tuple([meaning_of(pair, code) for code in row]) for pair, row in zip(pairs, values)])
