"""The further conditions of the rules, and what the right sides need beyond what the left sides name.

Found is what the names of the left side stand for; domains are those of the nodes.
"""

from tensorworks.kinds import limit
from tensorworks.shapes import count_of, size_of


def is_filled(nodes, place, n):
    """Tell whether a node is a const whose data are all n."""
    kind, _, info = nodes[place]
    return kind == "const" and info[1].count(n) == len(info[1])


def zero_condition(found, nodes, domains):
    return is_filled(nodes, found["c"], 0)


def one_condition(found, nodes, domains):
    return is_filled(nodes, found["c"], 1)


def has_axis(found, domains, name, axis):
    """Tell whether the node of a name has the axis of a name."""
    return size_of(domains[found[name]][0], found[axis]) is not None


def both_condition(found, nodes, domains):
    return has_axis(found, domains, "x", "k") and has_axis(found, domains, "y", "k")


def apart_condition(found, nodes, domains):
    return not has_axis(found, domains, "x", "k")


def crossed_condition(found, nodes, domains):
    return not has_axis(found, domains, "x", "k") and not has_axis(found, domains, "z", "j")


def clamp_condition(found, nodes, domains):
    _, low, high = domains[found["x"]]
    return found["c"] <= low and high <= found["d"]


def above_condition(found, nodes, domains):
    return domains[found["x"]][1] >= domains[found["y"]][2]


def below_condition(found, nodes, domains):
    return domains[found["x"]][2] < domains[found["y"]][1]


def known_condition(found, nodes, domains):
    return below_condition(found, nodes, domains) or above_condition(found, nodes, domains)


def size_condition(found, nodes, domains):
    return size_of(domains[found["x"]][0], found["k"]) == found["S"]


CONDITIONS = {
    "add-zero": zero_condition, "mul-one": one_condition, "sum-add": both_condition, "sum-dot": both_condition,
    "sum-mul": apart_condition, "mul-sum": apart_condition, "dot-left": crossed_condition,
    "dot-right": crossed_condition, "clamp-none": clamp_condition, "max-left": above_condition,
    "less-known": known_condition, "cut-pad": size_condition,
}


def holds(rule, found, nodes, domains):
    """Tell whether the further condition of a rule holds."""
    if rule not in CONDITIONS:
        return True
    condition = CONDITIONS[rule]
    return condition(found, nodes, domains)


def completed(rule, found, shape, domains):
    """Return what was found, with the fields that the right side of a rule has to work out."""
    if rule == "clamp-clamp":
        low, high = found["c"], found["d"]
        return {**found, "low": limit(found["a"], low, high), "high": limit(found["b"], low, high)}
    if rule == "less-known":
        truth = 1 if below_condition(found, (), domains) else 0
        return {**found, "shape": shape, "data": (truth,) * count_of(shape)}
    return found
