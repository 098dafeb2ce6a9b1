"""Where a rule can be applied, and steps one after the other."""

from tensorworks.errors import RuleError
from tensorworks.graphs import check_graph
from tensorworks.rules import apply_rule, check_rule, rewritten


def can_rewrite(graph, domains, rule, node):
    """Tell whether a rule can be applied at a node of a graph with these domains."""
    try:
        rewritten(graph, domains, rule, node)
    except RuleError:
        return False
    return True


def sites(graph, rule):
    """Return the nodes at which the rule can be applied."""
    domains = check_graph(graph)
    check_rule(rule)
    return tuple([node for node in range(len(graph[0])) if can_rewrite(graph, domains, rule, node)])


def replay(graph, steps):
    """Return the graph after all steps."""
    check_graph(graph)
    for rule, node in steps:
        graph = apply_rule(graph, rule, node)
    return graph
