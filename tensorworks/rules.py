"""Rewriting a graph at one node, by a rule that keeps the values of the outputs."""

from tensorworks.conditions import completed, holds
from tensorworks.errors import RuleError, TensorError
from tensorworks.graphs import check_graph, domains_from
from tensorworks.patterns import made_nodes, matched

RULES = (
    "add-swap", "add-left", "add-right", "mul-swap", "mul-left", "mul-right", "mul-over", "mul-out", "sub-neg",
    "neg-sub", "neg-neg", "add-zero", "mul-one", "sum-add", "add-sum", "sum-dot", "dot-sum", "sum-mul", "mul-sum",
    "dot-left", "dot-right", "order-order", "order-none", "clamp-clamp", "clamp-none", "max-same", "max-left",
    "less-known", "where-same", "cut-pad",
)


def check_rule(rule):
    """Raise the error of a rule that there is not."""
    if rule not in RULES:
        raise RuleError("no such rule")


def replacement(nodes, domains, rule, node):
    """Return the nodes that a rule makes at a node and what takes its place, or None if it does not match."""
    found = matched(nodes, rule, node)
    if found is None or not holds(rule, found, nodes, domains):
        return None
    return made_nodes(rule, completed(rule, found, domains[node][0], domains), node)


def replaced_graph(graph, node, made, place):
    """Return the graph with other nodes in the place of a node; place is the one that stands for it."""
    nodes, outs = graph
    moves = list(range(node)) + [place]
    for at in range(node + 1, len(nodes)):
        moves.append(at + len(made) - 1)
    behind = [(kind, tuple([moves[arg] for arg in args]), info) for kind, args, info in nodes[node + 1:]]
    return (nodes[:node] + made + tuple(behind), tuple([moves[out] for out in outs]))


def rewritten(graph, domains, rule, node):
    """Return the graph after a rule; domains are those of the graph, which is valid."""
    found = replacement(graph[0], domains, rule, node)
    if found is None:
        raise RuleError("the node is not as the rule says")
    made, place = found
    result = replaced_graph(graph, node, made, place)
    try:
        after = domains_from(result, domains[:node])
    except TensorError:
        raise RuleError("the result is not valid") from None
    if after[place][0] != domains[node][0]:
        raise RuleError("the shape would change")
    return result


def apply_rule(graph, rule, node):
    """Return the graph after the rule at the node."""
    domains = check_graph(graph)
    check_rule(rule)
    if not 0 <= node < len(graph[0]):
        raise RuleError("no such node")
    return rewritten(graph, domains, rule, node)
