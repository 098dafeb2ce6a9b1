"""Lowering the cost of a graph by steps of rewriting."""

from tensorworks.domains import domain_of
from tensorworks.errors import RangeError, RuleError, TensorError
from tensorworks.graphs import check_graph, node_work, work_of, works_of
from tensorworks.rules import RULES, replacement, rewritten
from tensorworks.tidying import needed_flags, pruned

FUEL_LIMIT = 50


def cost_of(graph):
    """Return the cost: the work of what the outputs need."""
    check_graph(graph)
    return work_of(pruned(graph))


class Account:
    """What a graph costs and where: the works of its nodes and how often each is used."""

    def __init__(self, graph):
        self.graph = graph
        self.nodes = graph[0]
        self.domains = check_graph(graph)
        self.works = works_of(graph[0], self.domains)
        self.uses = [0] * len(graph[0])
        for out in graph[1]:
            self.uses[out] += 1
        for node, flag in zip(graph[0], needed_flags(graph[0], graph[1])):
            if flag:
                for arg in node[1]:
                    self.uses[arg] += 1

    def freed_work(self, node, kept):
        """Return the work that goes when a node goes and the kept nodes are used once more."""
        fewer = {}
        for place in kept:
            fewer[place] = fewer.get(place, 0) - 1
        freed = 0
        going = [node]
        while going:
            here = going.pop()
            freed += self.works[here]
            for arg in self.nodes[here][1]:
                fewer[arg] = fewer.get(arg, 0) + 1
                if fewer[arg] == self.uses[arg]:
                    going.append(arg)
        return freed

    def saving(self, rule, node):
        """Return by how much a rule lowers the cost, 0 if it does not match or makes what is not valid."""
        found = replacement(self.nodes, self.domains, rule, node)
        if found is None:
            return 0
        made, place = found
        domains = list(self.domains[:node])
        added = 0
        kept = []
        for each in made:
            try:
                domain = domain_of(each, domains)
            except TensorError:
                return 0
            added += node_work(each, domains, domain[0])
            domains.append(domain)
            kept.extend([arg for arg in each[1] if arg < node])
        if not made:
            kept.append(place)
        return self.freed_work(node, kept) - added

    def rule_at(self, node):
        """Return the first rule that lowers the cost at a node with the graph after it, or None."""
        # What no output needs costs nothing, before a step and after it.
        if self.uses[node] == 0:
            return None
        for rule in RULES:
            if self.saving(rule, node) > 0:
                try:
                    return (rule, rewritten(self.graph, self.domains, rule, node))
                except RuleError:
                    continue
        return None


def next_step(graph, start):
    """Return a step that lowers the cost and the graph after it, looked for from a node on, or None."""
    account = Account(graph)
    many = len(graph[0])
    for turn in range(many):
        node = (start + turn) % many
        found = account.rule_at(node)
        if found is not None:
            return ((found[0], node), found[1])
    return None


def optimize(graph, fuel):
    """Return at most fuel steps that lower the cost, and the graph after them."""
    check_graph(graph)
    if not 0 <= fuel <= FUEL_LIMIT:
        raise RangeError("fuel is out of its range")
    steps = []
    start = 0
    while len(steps) < fuel:
        found = next_step(graph, start)
        if found is None:
            break
        step, graph = found
        steps.append(step)
        # Looking on from here saves looking in vain at the nodes before.
        start = step[1]
    return (tuple(steps), graph)
