"""The graph of the slopes along a direction."""

from tensorworks.drafts import Draft, put_mask, put_number, put_zeros
from tensorworks.errors import RangeError
from tensorworks.graphs import check_graph

FLAT = ("const", "less", "equal", "shift")
PRODUCTS = ("mul", "dot")
CHOICES = ("max", "min")


def product_slope(draft, place, slopes):
    """Put the slope of a product: each factor's slope times the other factor."""
    kind, args, info = draft.nodes[place]
    first = draft.put(kind, (slopes[0], args[1]), info)
    second = draft.put(kind, (args[0], slopes[1]), info)
    return draft.put("add", (first, second), ())


def choice_slope(draft, place, slopes):
    """Put the slope of the greater or the lesser of two."""
    kind, args, _ = draft.nodes[place]
    below = draft.put("less", args, ())
    chosen = slopes if kind == "min" else slopes[::-1]
    return draft.put("where", (below,) + chosen, ())


def clamp_slope(draft, place, slopes):
    """Put the slope of a clamp, which is 0 where it changes its arg."""
    args = draft.nodes[place][1]
    same = draft.put("equal", (args[0], place), ())
    zero = put_number(draft, 0)
    return draft.put("where", (same, slopes[0], zero), ())


def peak_slope(draft, place, slopes):
    """Put the slope of the first of the greatest elements along an axis."""
    info = draft.nodes[place][2]
    mask = put_mask(draft, place)
    zero = put_number(draft, 0)
    chosen = draft.put("where", (mask, slopes[0], zero), ())
    return draft.put("sum", (chosen,), info)


def put_slope(draft, place, slopes):
    """Put the nodes of the slope of a node that is no input, given the slopes of its args."""
    kind, args, info = draft.nodes[place]
    if kind in FLAT:
        return put_zeros(draft, draft.shapes[place])
    if kind in PRODUCTS:
        return product_slope(draft, place, slopes)
    if kind in CHOICES:
        return choice_slope(draft, place, slopes)
    if kind == "clamp":
        return clamp_slope(draft, place, slopes)
    if kind == "where":
        return draft.put("where", (args[0],) + slopes[1:], ())
    if kind == "gather":
        return draft.put("gather", (slopes[0], args[1]), info)
    if kind == "peak":
        return peak_slope(draft, place, slopes)
    return draft.put(kind, slopes, info)


def tangent_graph(graph, low, high):
    """Return the graph of the slopes; the directions are from low to high."""
    check_graph(graph)
    if low > high:
        raise RangeError("low is greater than high")
    draft = Draft()
    places = []
    slopes = []
    for kind, args, info in graph[0]:
        place = draft.put(kind, tuple([places[arg] for arg in args]), info)
        if kind == "input":
            slope = draft.put("input", (), (info[0], low, high))
        else:
            slope = put_slope(draft, place, tuple([slopes[arg] for arg in args]))
        places.append(place)
        slopes.append(slope)
    result = (tuple(draft.nodes), tuple([slopes[out] for out in graph[1]]))
    check_graph(result)
    return result
